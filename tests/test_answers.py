"""The interface: how calls stand in the list, and what is given back of them."""

import random
import unittest

from singlemail.stack import answers
from tests.helper import EVERYBODY, HUGE, begins, bind, close, connect, hear, line, numbers, opens, split


class Written(unittest.TestCase):
    def test_each_call_alone(self):
        self.assertEqual(answers([0, 7]), [4, 0, 0, 0, 0])
        self.assertEqual(answers([1]), [4, 0, 0, 0, 0])
        self.assertEqual(answers([2, 0]), [1, -2])
        self.assertEqual(answers([3, 0, 1, 80]), [1, -2])
        self.assertEqual(answers([4, 0, 1, 2, 3]), [1, -2])
        self.assertEqual(answers([5, 0, 1]), [1, -2])

    def test_several_in_one_list(self):
        self.assertEqual(
            answers([1, 3, 0, 7, 80, 5, 0, 1, 4, 0, 0, 5, 6, 3, 0, 7, 81, 5, 0, 2, 2, 0, 0, 3, 1]),
            [4, 0, 0, 0, 0, 4, 80, 0, 0, 0, 4, 0, 0, 0, 0, 4, 80, 0, 0, 0, 1, -4, 1, -1, 4, 0, 0, 0, 0,
             4, 0, 0, 0, 0, 4, 0, 0, 0, 0])

    def test_each_refusal_stands_alone(self):
        rows = [opens()] * 65 + [close(64), bind(0, EVERYBODY, 0), bind(0, 0, 80), bind(1, 7, 80)]
        self.assertEqual(answers(line(rows))[64 * 5:], [1, -5, 1, -2, 1, -1, 4, 80, 0, 0, 0, 1, -4])

    def test_numbers_that_look_like_calls(self):
        self.assertEqual(numbers(begins(5), opens(), bind(0, 1, 2), connect(0, 3, 4, 5), hear(0, 1), close(0)),
                         [0, 0, 2, 2, 0, 0])

    def test_400_calls(self):
        rows = [opens(), bind(0, 0, 0), connect(0, 0, 5, 6), close(0)] * 100
        self.assertEqual(numbers(*rows), [n for k in range(100) for n in (0, 49152 + k, 49152 + k, 0)])

    def test_what_is_given_back_is_whole_numbers(self):
        given = answers(line([opens(), hear(0, 1), bind(0, 0, 0), connect(0, 0, 5, 6), connect(0, 0, 0, 0), close(9)]))
        self.assertIs(type(given), list)
        self.assertEqual({type(number) for number in given}, {int})


def random_line(seed):
    """A line in which places meet often: few sockets, addresses and ports."""
    source = random.Random(seed)
    addresses = (0, 0, 1, 2, EVERYBODY - 1, EVERYBODY, HUGE)
    ports = (0, 0, 1, 49152, 49153, 65535, 65536)
    rows = []
    for step in range(source.randrange(1, 120)):
        k = source.randrange(-1, 6)
        a = source.choice(addresses)
        t = source.choice(addresses)
        p = source.choice(ports)
        rows.append(source.choice((opens(), opens(), bind(k, a, p), bind(k, a, p), connect(k, a, t, p),
                                   connect(k, a, 1, 1), connect(k, a, 0, 0), hear(k, source.randrange(-1, 3)),
                                   close(k))))
        if source.randrange(60) == 0:
            rows.append(begins(source.randrange(4294967296)))
    return line(rows)


class NothingKept(unittest.TestCase):
    def test_the_list_handed_in_stays_as_it_was(self):
        calls = line([begins(9), opens(), opens(), bind(0, 0, 80), bind(1, 0, 80), connect(1, 0, 5, 6), close(0)])
        before = list(calls)
        answers(calls)
        self.assertEqual(calls, before)

    def test_the_list_is_not_changed_for_a_while_either(self):
        class Untouched(list):
            def refuse(self, *args, **kwargs):
                raise AssertionError("the list handed in is changed")

            append = extend = insert = pop = remove = clear = sort = reverse = refuse
            __setitem__ = __delitem__ = __iadd__ = __imul__ = refuse

        calls = line([begins(9), opens(), bind(0, 0, 80), connect(0, 0, 5, 6), hear(0, 1), close(0)])
        self.assertEqual(answers(Untouched(calls)), answers(calls))

    def test_a_second_time_gives_the_same(self):
        for seed in range(200):
            calls = random_line(seed)
            before = list(calls)
            first = answers(calls)
            self.assertEqual(calls, before)
            self.assertEqual(answers(calls), first)

    def test_another_list_between_changes_nothing(self):
        calls = line([opens(), bind(0, 0, 0)])
        first = answers(calls)
        answers(line([begins(77), opens(), opens(), bind(0, 0, 0), bind(1, 0, 80)]))
        self.assertEqual(answers(calls), first)

    def test_what_was_given_back_may_be_changed(self):
        calls = line([opens(), bind(0, 0, 80)])
        answers(calls).clear()
        self.assertEqual(answers(calls), [4, 0, 0, 0, 0, 4, 80, 0, 0, 0])


class Refused(unittest.TestCase):
    def test_calls_that_are_refused_may_be_left_out(self):
        """What else is answered is the same without them, since they change nothing."""
        for seed in range(200):
            calls = random_line(seed)
            parts = split(answers(calls))
            kept = []
            at = 0
            for part in parts:
                behind = at + 1 + (1, 0, 1, 3, 4, 2)[calls[at]]
                if part[0] >= 0:
                    kept.extend(calls[at:behind])
                at = behind
            self.assertEqual(split(answers(kept)), [part for part in parts if part[0] >= 0])


if __name__ == "__main__":
    unittest.main()
