"""Promise 1: begins, opens, close."""

import unittest

from tests.helper import begins, bind, close, connect, hear, machine_with, numbers, opens, state


class Begins(unittest.TestCase):
    def test_answers_0(self):
        self.assertEqual(numbers(begins(0)), [0])
        self.assertEqual(numbers(begins(4294967295)), [0])

    def test_there_are_no_sockets_then(self):
        self.assertEqual(numbers(opens(), opens(), begins(0), close(0), close(1), opens()), [0, 1, 0, -2, -2, 0])

    def test_ports_are_free_again(self):
        self.assertEqual(numbers(opens(), bind(0, 0, 80), begins(0), opens(), bind(0, 0, 80)), [0, 80, 0, 0, 80])

    def test_the_turn_is_49152_and_the_rest_by_16384(self):
        for turn, port in ((0, 49152), (1, 49153), (16383, 65535), (16384, 49152), (16385, 49153),
                           (49152, 49152), (65535, 65535), (65536, 49152), (100000, 50848),
                           (4294967294, 65534), (4294967295, 65535)):
            with self.subTest(turn=turn):
                self.assertEqual(numbers(begins(turn), opens(), bind(0, 0, 0)), [0, 0, port])

    def test_the_turn_is_set_anew_each_time(self):
        self.assertEqual(
            numbers(begins(7), opens(), bind(0, 0, 0), begins(7), opens(), bind(0, 0, 0), begins(0), opens(),
                    bind(0, 0, 0)),
            [0, 0, 49159, 0, 0, 49159, 0, 0, 49152])

    def test_a_line_begins_as_begins_0_leaves_it(self):
        self.assertEqual(numbers(opens(), bind(0, 0, 0)), [0, 49152])
        self.assertEqual(numbers(close(0)), [-2])


class Opens(unittest.TestCase):
    def test_numbers_go_up_from_0(self):
        self.assertEqual(numbers(opens(), opens(), opens()), [0, 1, 2])

    def test_all_64_are_sockets(self):
        rows = [opens()] * 66
        self.assertEqual(numbers(*rows), list(range(64)) + [-5, -5])

    def test_a_refusal_changes_nothing(self):
        machine = machine_with(64)
        before = state(machine)
        self.assertEqual(machine.opens(), -5)
        self.assertEqual(state(machine), before)

    def test_a_number_is_free_again_after_close(self):
        rows = [opens()] * 64 + [close(63), opens(), opens(), close(0), opens(), opens()]
        self.assertEqual(numbers(*rows)[64:], [0, 63, -5, 0, 0, -5])

    def test_the_least_free_number(self):
        rows = [opens()] * 6 + [close(4), close(1), close(3), opens(), opens(), opens(), opens()]
        self.assertEqual(numbers(*rows)[6:], [0, 0, 0, 1, 3, 4, 6])

    def test_a_socket_is_without_anything(self):
        self.assertEqual(state(machine_with(1)), (49152, {0: (0, 0, (0, 0), 0, [], None, 0)}))

    def test_a_number_taken_again_has_nothing_of_the_one_before(self):
        machine = machine_with(1)
        machine.connect(0, 5, 6, 7)
        machine.hear(0, 1)
        machine.close(0)
        machine.opens()
        self.assertEqual(state(machine), (49153, {0: (0, 0, (0, 0), 0, [], None, 0)}))

    def test_sockets_share_nothing(self):
        machine = machine_with(2)
        self.assertIsNot(machine.sockets[0].queue, machine.sockets[1].queue)


class Close(unittest.TestCase):
    def test_it_is_no_socket_any_more(self):
        self.assertEqual(
            numbers(opens(), close(0), close(0), bind(0, 0, 1), connect(0, 0, 1, 1), connect(0, 0, 0, 0), hear(0, 1)),
            [0, 0, -2, -2, -2, -2, -2])

    def test_no_such_socket(self):
        for k in (-2147483648, -64, -1, 1, 63, 64, 65, 2147483647):
            with self.subTest(k=k):
                self.assertEqual(numbers(opens(), close(k), close(0)), [0, -2, 0])

    def test_the_others_stay(self):
        machine = machine_with(3)
        machine.bind(0, 1, 10)
        machine.bind(2, 2, 20)
        self.assertEqual(machine.close(1), 0)
        self.assertEqual(
            state(machine), (49152, {0: (1, 10, (0, 0), 0, [], None, 0), 2: (2, 20, (0, 0), 0, [], None, 0)}))

    def test_its_port_is_free_again_and_the_turn_stays(self):
        self.assertEqual(
            numbers(opens(), bind(0, 0, 80), opens(), bind(1, 0, 80), close(0), bind(1, 0, 80)),
            [0, 80, 1, -4, 0, 80])
        self.assertEqual(
            numbers(opens(), bind(0, 0, 0), close(0), opens(), bind(0, 0, 0)), [0, 49152, 0, 0, 49153])

    def test_a_refusal_changes_nothing(self):
        machine = machine_with(2)
        machine.bind(0, 1, 10)
        before = state(machine)
        self.assertEqual(machine.close(2), -2)
        self.assertEqual(state(machine), before)


if __name__ == "__main__":
    unittest.main()
