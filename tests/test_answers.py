"""The interface: how calls stand in the list, and what is given back of them."""

import random
import unittest

from singlemail.stack import answers
from tests.helper import (EVERYBODY, HUGE, arrives, begins, bind, came, close, connect, datagram, fails, hear, line,
                          numbers, opens, packet, parts, problem, send, split, split_calls, take, told)


class Written(unittest.TestCase):
    def test_each_call_alone(self):
        self.assertEqual(answers([0, 7]), [4, 0, 0, 0, 0])
        self.assertEqual(answers([1]), [4, 0, 0, 0, 0])
        self.assertEqual(answers([2, 0]), [1, -2])
        self.assertEqual(answers([3, 0, 1, 80]), [1, -2])
        self.assertEqual(answers([4, 0, 1, 2, 3]), [1, -2])
        self.assertEqual(answers([5, 0, 1]), [1, -2])
        self.assertEqual(answers([6, 0, 1, 2, 3, 0]), [1, -2])
        self.assertEqual(answers([6, 0, 1, 2, 3, 2, 10, 1]), [1, -2])
        self.assertEqual(answers([7, 1, 2, 0]), [1, -3])
        self.assertEqual(answers([7, 1, 2, 8, 0, 3, 0, 4, 0, 8, 255, 227]),
                         [16, 0, 0, 0, 1, 1, 1, 2, 8, 0, 3, 0, 4, 0, 8, 255, 227])
        self.assertEqual(answers([8, 1, 2, 0]), [1, -3])
        self.assertEqual(answers([8, 1, 2, 24, 81, 1, 2] + [1] * 21), [4, 0, 0, 0, 0])
        self.assertEqual(answers([9, 0, 1]), [1, -2])
        self.assertEqual(answers([10, 0]), [1, -2])

    def test_several_in_one_list(self):
        self.assertEqual(
            answers([1, 3, 0, 7, 80, 5, 0, 1, 4, 0, 0, 5, 6, 3, 0, 7, 81, 5, 0, 2, 2, 0, 0, 3, 1]),
            [4, 0, 0, 0, 0, 4, 80, 0, 0, 0, 4, 0, 0, 0, 0, 4, 80, 0, 0, 0, 1, -4, 1, -1, 4, 0, 0, 0, 0,
             4, 0, 0, 0, 0, 4, 0, 0, 0, 0])

    def test_all_eleven_in_one_list(self):
        # What came: 5 + 7 + 2 + 10 + 6 + 80 + 10 + 258 is 378, and 65157 more is 65535.
        row = [0, 6, 0, 80, 0, 10, 254, 133, 1, 2]
        calls = [0, 9, 1, 3, 0, 7, 80, 5, 0, 1, 4, 0, 0, 5, 6, 6, 0, 0, 0, 0, 1, 3, 7, 5, 7, 10] + row
        calls += [8, 3, 4, 24, 81, 0, 2, 0, 0, 0, 0, 0, 0, 0, 0, 0, 0, 0, 0, 7, 0, 0, 0, 5, 0, 80, 0, 6]
        calls += [9, 0, 1, 9, 0, 1, 9, 0, 1, 10, 0, 2, 0]
        # What is sent: 7 + 5 + 2 + 9 + 80 + 6 + 9 + 768 is 886, and 64649 more is 65535.
        self.assertEqual(answers(calls), [
            4, 0, 0, 0, 0, 4, 0, 0, 0, 0, 4, 80, 0, 0, 0, 4, 0, 0, 0, 0, 4, 80, 0, 0, 0,
            17, 0, 0, 0, 1, 0, 7, 5, 9, 0, 80, 0, 6, 0, 9, 252, 137, 3,
            6, 1, 0, 0, 1, 2, 0, 4, 1, 0, 0, 0, 6, 2, 2, 3, 4, 0, 0, 9, 1, 4, 5, 6, 7, 2, 1, 1, 0, 4, 0, 0, 0, 0,
            10, 0, 6, 7, 80, 5, 6, 0, 0, 0, 0, 4, 0, 0, 0, 0])

    def test_rows_that_look_like_calls(self):
        found = parts(opens(), bind(0, 7, 80), send(0, 0, 5, 6, [1, 1, 2, 0]), arrives(5, 6, 7, 80, [10, 0, 1]),
                      problem(1, 2, packet(7, 80, 5, 6) + [1, 1, 1]), take(0, 3), opens())
        self.assertEqual(found[2][16:], [1, 1, 2, 0])
        self.assertEqual(found[3:], [[1, 0, 0, 1, 2, 0], [0, 0, 0, 0], [1, 4, 5, 6, 7, 3, 3, 10, 0, 1, 0],
                                     [1, 0, 0, 0]])

    def test_rows_of_no_bytes(self):
        found = parts(send(0, 0, 5, 6, []), came(5, 7, []), problem(1, 2, []), opens())
        self.assertEqual(found, [[-2], [-3], [-3], [0, 0, 0, 0]])

    def test_each_refusal_stands_alone(self):
        rows = [opens()] * 65 + [close(64), bind(0, EVERYBODY, 0), bind(0, 0, 80), bind(1, 7, 80)]
        self.assertEqual(answers(line(rows))[64 * 5:], [1, -5, 1, -2, 1, -1, 4, 80, 0, 0, 0, 1, -4])

    def test_numbers_that_look_like_calls(self):
        self.assertEqual(numbers(begins(5), opens(), bind(0, 1, 2), connect(0, 3, 4, 5), hear(0, 1), close(0)),
                         [0, 0, 2, 2, 0, 0])

    def test_400_calls(self):
        rows = [opens(), bind(0, 0, 0), connect(0, 0, 5, 6), close(0)] * 100
        self.assertEqual(numbers(*rows), [n for k in range(100) for n in (0, 49152 + k, 49152 + k, 0)])

    def test_400_calls_of_all_kinds(self):
        rows = [opens(), bind(0, 7, 80), connect(0, 0, 5, 6), send(0, 0, 0, 0, [1]), arrives(5, 6, 7, 80, [1]),
                fails(3, 4, 7, 80, 5, 6), take(0, 9), take(0, 9), told(0), close(0)]
        self.assertEqual(parts(*rows * 40), parts(*rows) * 40)

    def test_16000_numbers(self):
        rows = [opens(), bind(0, 7, 80)]
        rows += [arrives(5, 6, 7, 80, [n % 256] * (390 - 12)) for n in range(40)]
        rows.append(arrives(5, 6, 7, 80, [9] * (16000 - len(line(rows)) - 12)))
        self.assertEqual(len(line(rows)), 16000)
        found = parts(*rows)
        self.assertEqual(found[2:], [[1, 0, 0, 1, 2, 0]] + [[1, 0, 0, 0]] * 40)

    def test_rows_of_15800_bytes(self):
        body = [at * 11 % 256 for at in range(15800)]
        found = parts(opens(), bind(0, 7, 80), send(0, 0, 5, 6, body))
        row = datagram(7, 80, 5, 6, body)
        self.assertEqual(found[2], [0, 0, 0, 1, 0, 7, 5, 15808] + row)
        row = datagram(5, 6, 7, 80, body[8:])
        self.assertEqual(len(row), 15800)
        found = parts(opens(), bind(0, 7, 80), came(5, 7, row), take(0, 65536))
        self.assertEqual(found[2:], [[1, 0, 0, 1, 2, 0], [1, 4, 5, 6, 7, 15792, 15792] + body[8:] + [0]])
        self.assertEqual(parts(came(5, 7, row)), [[0, 0, 0, 1, 1, 5, 7, 15800] + row])
        found = parts(opens(), bind(0, 7, 80), connect(0, 0, 5, 6), problem(1, 2, packet(7, 80, 5, 6) + body[24:]))
        self.assertEqual(found[3], [1, 0, 0, 1, 2, 0])

    def test_what_is_given_back_is_whole_numbers(self):
        given = answers(line([opens(), hear(0, 1), bind(0, 0, 0), connect(0, 0, 5, 6), arrives(5, 6, 7, 49152, [1]),
                              arrives(5, 6, EVERYBODY, 49152, []), fails(1, 2, 7, 49152, 5, 6), take(0, 9),
                              take(0, 9), told(0), send(0, 0, 0, 0, [1]), fails(1, 2, 7, 9, 5, 6),
                              connect(0, 0, 0, 0), close(9)]))
        self.assertIs(type(given), list)
        self.assertEqual({type(number) for number in given}, {int})


def random_row(source):
    """A call of such numbers that places meet often, and what comes often fits somebody."""
    addresses = (0, 0, 1, 2, EVERYBODY - 1, EVERYBODY, HUGE)
    ports = (0, 0, 1, 49152, 49153, 65535, 65536)
    k = source.randrange(-1, 6)
    a = source.choice(addresses)
    t = source.choice(addresses)
    p = source.choice(ports)
    places = (source.choice((1, 1, 2, 0)), source.choice((1, 1, 2)), source.choice((1, 2, EVERYBODY)),
              source.choice((1, 49152, 49152, 49153)))
    body = [source.randrange(256) for step in range(source.randrange(4))]
    row = datagram(*places, body)
    row[source.randrange(7, len(row))] ^= source.choice((0, 0, 0, 1))
    start = packet(places[2], places[3], places[0], places[1])
    start[2] = source.choice((2, 2, 2, 3))
    return source.choice((
        opens(), opens(), bind(k, a, p), bind(k, a, p), connect(k, a, t, p), connect(k, a, 1, 1), connect(k, a, 0, 0),
        hear(k, source.randrange(-1, 3)), hear(k, 1), close(k), send(k, a, t, p, body), send(k, 1, 0, 0, body),
        send(k, 0, 2, 1, body), came(places[0], places[2], row), came(places[0], places[2], row), came(a, t, row),
        problem(source.randrange(4), source.choice((0, 7, EVERYBODY, HUGE)), start), problem(1, 2, start),
        take(k, source.choice((0, 1, 2, 65536, 65537))), told(k), told(k)))


def random_line(seed):
    source = random.Random(seed)
    rows = [opens(), opens()]
    for step in range(source.randrange(1, 300)):
        rows.append(random_row(source))
        if source.randrange(100) == 0:
            rows.append(begins(source.randrange(4294967296)))
    return line(rows)


class NothingKept(unittest.TestCase):
    def test_the_list_handed_in_stays_as_it_was(self):
        calls = line([begins(9), opens(), opens(), bind(0, 0, 80), bind(1, 0, 80), connect(1, 0, 5, 6),
                      send(0, 9, 5, 6, [1, 2]), arrives(5, 6, 7, 80, [1, 2]), came(5, 7, [1, 2]), take(0, 1),
                      fails(1, 2, 7, 80, 5, 6), told(0), close(0)])
        before = list(calls)
        answers(calls)
        self.assertEqual(calls, before)

    def test_the_list_is_not_changed_for_a_while_either(self):
        class Untouched(list):
            def refuse(self, *args, **kwargs):
                raise AssertionError("the list handed in is changed")

            append = extend = insert = pop = remove = clear = sort = reverse = refuse
            __setitem__ = __delitem__ = __iadd__ = __imul__ = refuse

        calls = line([begins(9), opens(), bind(0, 0, 80), connect(0, 0, 5, 6), hear(0, 1), send(0, 9, 0, 0, [1]),
                      arrives(5, 6, 7, 80, [1, 2]), fails(1, 2, 7, 80, 5, 6), take(0, 1), take(0, 1), told(0), close(0),
                      arrives(5, 6, 7, 80, [1, 2])])
        self.assertEqual(answers(Untouched(calls)), answers(calls))

    def test_a_second_time_gives_the_same(self):
        for seed in range(200):
            calls = random_line(seed)
            before = list(calls)
            first = answers(calls)
            self.assertEqual(calls, before)
            self.assertEqual(answers(calls), first)

    def test_another_list_between_changes_nothing(self):
        calls = line([opens(), bind(0, 0, 0)])
        first = answers(calls)
        answers(line([begins(77), opens(), opens(), bind(0, 0, 0), bind(1, 0, 80)]))
        self.assertEqual(answers(calls), first)

    def test_what_was_given_back_may_be_changed(self):
        calls = line([opens(), bind(0, 0, 80)])
        answers(calls).clear()
        self.assertEqual(answers(calls), [4, 0, 0, 0, 0, 4, 80, 0, 0, 0])


class Refused(unittest.TestCase):
    def test_calls_that_are_refused_may_be_left_out(self):
        """What else is answered is the same without them, since they change nothing."""
        seen = set()
        for seed in range(200):
            rows = split_calls(random_line(seed))
            found = parts(*rows)
            kept = [row for row, part in zip(rows, found, strict=True) if part[0] >= 0]
            self.assertEqual(split(answers(line(kept))), [part for part in found if part[0] >= 0])
            seen.update((row[0], part[0]) for row, part in zip(rows, found, strict=True))
        # The lines must hold what this is about: each call refused in each way, and answered in each.
        self.assertLessEqual({(2, -2), (3, -1), (3, -2), (3, -4), (4, -1), (4, -2), (4, -4), (5, -1), (5, -2),
                              (6, -1), (6, -2), (6, -4), (7, -1), (7, -3), (8, -1), (8, -3), (9, -1), (9, -2),
                              (10, -2), (6, 0), (7, 0), (7, 1), (7, 2), (8, 0), (8, 1), (9, 0), (9, 1), (9, 2),
                              (10, 0)}, seen)

    def test_an_answer_has_as_many_numbers_as_its_counts_say(self):
        for seed in range(200):
            for part in parts(*split_calls(random_line(seed))):
                if part[0] < 0:
                    self.assertEqual(len(part), 1)
                    continue
                at = 2 + part[1]
                at += 1 + part[at]
                things = part[at]
                at += 1
                for step in range(things):
                    self.assertIn(part[at], (0, 1, 2))
                    at += 2 if part[at] == 2 else 4 + part[at + 3]
                self.assertEqual(at, len(part))


if __name__ == "__main__":
    unittest.main()
