"""Promise 4: hear."""

import unittest

from tests.helper import EVERYBODY, arrives, bind, connect, hear, last, machine_with, numbers, opens, state


class Hear(unittest.TestCase):
    def test_answers_0(self):
        self.assertEqual(numbers(opens(), hear(0, 1), hear(0, 1), hear(0, 0), hear(0, 0)), [0, 0, 0, 0, 0])

    def test_it_hears_everybodys_or_not(self):
        machine = machine_with(2)
        for b in (1, 1, 0, 0, 1):
            machine.hear(1, b)
            self.assertEqual(
                state(machine), (49152, {0: (0, 0, (0, 0), 0, [], None, 0), 1: (0, 0, (0, 0), b, [], None, 0)}))

    def test_the_rest_of_it_stays(self):
        machine = machine_with(1)
        machine.bind(0, 7, 80)
        machine.connect(0, 0, 5, 6)
        machine.hear(0, 1)
        self.assertEqual(state(machine), (49152, {0: (7, 80, (5, 6), 1, [], None, 0)}))

    def test_by_what_came(self):
        heard = [1, 0, 0, 1, 2, 0]
        for values, answer in (((), [0, 0, 0, 0]), ((1,), heard), ((0,), [0, 0, 0, 0]), ((1, 1), heard),
                               ((1, 0), [0, 0, 0, 0]), ((0, 1), heard), ((1, 2), heard), ((1, -1), heard),
                               ((0, 2), [0, 0, 0, 0])):
            rows = [opens(), bind(0, 7, 80)] + [hear(0, b) for b in values]
            self.assertEqual(last(*rows, arrives(5, 6, EVERYBODY, 80, [])), answer, values)

    def test_it_stays_whatever_place_the_socket_has_then(self):
        self.assertEqual(last(opens(), hear(0, 1), connect(0, 9, 5, 6), connect(0, 0, 0, 0),
                              arrives(3, 4, EVERYBODY, 49152, [])), [1, 0, 0, 1, 2, 0])

    def refused(self, machine, k, b, answer):
        before = state(machine)
        self.assertEqual(machine.hear(k, b), answer)
        self.assertEqual(state(machine), before)

    def test_b_is_neither_0_nor_1(self):
        machine = machine_with(2)
        machine.hear(1, 1)
        for b in (-2147483648, -1, 2, 3, 256, 2147483647):
            with self.subTest(b=b):
                self.refused(machine, 0, b, -1)
                self.refused(machine, 1, b, -1)

    def test_no_such_socket(self):
        machine = machine_with(1)
        for k in (-2147483648, -1, 1, 63, 64, 2147483647):
            with self.subTest(k=k):
                self.refused(machine, k, 0, -2)
                self.refused(machine, k, 1, -2)

    def test_not_as_told_is_ahead_of_no_such_socket(self):
        machine = machine_with(1)
        self.refused(machine, 1, 2, -1)
        self.refused(machine, -1, -1, -1)
        self.assertEqual(numbers(hear(0, 2), hear(0, 1)), [-1, -2])


if __name__ == "__main__":
    unittest.main()
