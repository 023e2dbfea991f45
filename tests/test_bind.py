"""Promise 2: bind, and how a port is given."""

import unittest

from singlemail.sockets import Socket
from tests.helper import EVERYBODY, HUGE, begins, bind, close, connect, machine_with, numbers, opens, state


class Bind(unittest.TestCase):
    def test_answers_the_port(self):
        self.assertEqual(numbers(opens(), bind(0, 167772161, 53)), [0, 53])

    def test_its_place_is_kept(self):
        machine = machine_with(1)
        machine.bind(0, 167772161, 53)
        self.assertEqual(state(machine), (49152, {0: (167772161, 53, (0, 0), 0, [], None, 0)}))

    def test_edges_of_the_ranges(self):
        for a, p in ((0, 1), (0, 65535), (1, 1), (EVERYBODY - 1, 65535), (EVERYBODY - 1, 1)):
            with self.subTest(a=a, p=p):
                self.assertEqual(numbers(opens(), bind(0, a, p)), [0, p])

    def test_the_address_is_kept_where_a_port_is_given(self):
        machine = machine_with(1)
        self.assertEqual(machine.bind(0, 9, 0), 49152)
        self.assertEqual(state(machine), (49153, {0: (9, 49152, (0, 0), 0, [], None, 0)}))


class Refusals(unittest.TestCase):
    def refused(self, machine, k, a, p, answer):
        before = state(machine)
        self.assertEqual(machine.bind(k, a, p), answer)
        self.assertEqual(state(machine), before)

    def test_numbers_not_as_told(self):
        machine = machine_with(1)
        for a, p in ((EVERYBODY, 1), (EVERYBODY, 0), (EVERYBODY + 1, 1), (HUGE, 1), (1, 65536), (1, HUGE),
                     (0, 65536), (HUGE, HUGE)):
            with self.subTest(a=a, p=p):
                self.refused(machine, 0, a, p, -1)

    def test_no_such_socket(self):
        machine = machine_with(1)
        for k in (-2147483648, -1, 1, 63, 64, 2147483647):
            with self.subTest(k=k):
                self.refused(machine, k, 1, 1, -2)
                self.refused(machine, k, 1, 0, -2)

    def test_it_has_a_port(self):
        machine = machine_with(1)
        machine.bind(0, 1, 10)
        for a, p in ((1, 10), (1, 11), (2, 10), (0, 0), (1, 0)):
            with self.subTest(a=a, p=p):
                self.refused(machine, 0, a, p, -4)

    def test_it_has_a_port_by_connect(self):
        machine = machine_with(1)
        machine.connect(0, 0, 5, 5)
        self.refused(machine, 0, 0, 10, -4)
        machine.connect(0, 0, 0, 0)
        self.refused(machine, 0, 0, 0, -4)

    def test_another_meets_it(self):
        machine = machine_with(2)
        machine.bind(0, 1, 10)
        self.refused(machine, 1, 1, 10, -4)

    def test_not_as_told_is_ahead_of_no_such_socket(self):
        machine = machine_with(0)
        self.refused(machine, 0, EVERYBODY, 1, -1)
        self.refused(machine, -1, 0, 65536, -1)
        self.refused(machine, 64, HUGE, HUGE, -1)

    def test_not_as_told_is_ahead_of_what_is_in_the_way(self):
        machine = machine_with(2)
        machine.bind(0, 0, 10)
        self.refused(machine, 0, EVERYBODY, 10, -1)
        self.refused(machine, 0, 0, 65536, -1)
        self.refused(machine, 1, EVERYBODY, 10, -1)

    def test_no_such_socket_is_ahead_of_what_is_in_the_way(self):
        machine = machine_with(1)
        machine.bind(0, 0, 10)
        self.refused(machine, 1, 0, 10, -2)

    def test_none_is_free(self):
        # 64 sockets can't have all these ports by the calls, so they're put there by hand.
        machine = machine_with(1)
        for port in range(49152, 65536):
            machine.sockets[port] = Socket()
            machine.sockets[port].port = port
        self.refused(machine, 0, 1, 0, -5)
        machine.sockets.pop(60000)
        self.assertEqual(machine.bind(0, 1, 0), 60000)
        self.refused(machine, 0, 1, 0, -4)


class Meeting(unittest.TestCase):
    def both(self, first, second):
        return numbers(opens(), opens(), bind(0, first[0], first[1]), bind(1, second[0], second[1]))[3]

    def test_same_port_and_address(self):
        self.assertEqual(self.both((7, 80), (7, 80)), -4)
        self.assertEqual(self.both((0, 80), (0, 80)), -4)

    def test_an_address_of_0_on_either_side(self):
        self.assertEqual(self.both((0, 80), (7, 80)), -4)
        self.assertEqual(self.both((7, 80), (0, 80)), -4)

    def test_other_addresses_dont_meet(self):
        self.assertEqual(self.both((7, 80), (8, 80)), 80)
        self.assertEqual(self.both((1, 80), (EVERYBODY - 1, 80)), 80)

    def test_other_ports_dont_meet(self):
        self.assertEqual(self.both((7, 80), (7, 81)), 81)
        self.assertEqual(self.both((0, 80), (0, 81)), 81)

    def test_one_with_a_peer_is_not_in_the_way(self):
        for first, second in ((7, 7), (0, 7), (7, 0), (0, 0)):
            with self.subTest(first=first, second=second):
                self.assertEqual(
                    numbers(opens(), opens(), bind(0, first, 80), connect(0, first, 5, 6), bind(1, second, 80))[4], 80)

    def test_one_whose_peer_was_let_go_is_in_the_way(self):
        self.assertEqual(
            numbers(opens(), opens(), bind(0, 7, 80), connect(0, 0, 5, 6), connect(0, 0, 0, 0), bind(1, 7, 80)),
            [0, 1, 80, 80, 0, -4])

    def test_one_without_a_peer_among_those_with_one(self):
        self.assertEqual(
            numbers(opens(), opens(), opens(), bind(0, 7, 80), connect(0, 0, 5, 6), bind(1, 7, 80), bind(2, 7, 80)),
            [0, 1, 2, 80, 80, 80, -4])

    def test_sockets_without_a_port_meet_nobody(self):
        self.assertEqual(numbers(opens(), opens(), bind(1, 0, 0)), [0, 1, 49152])

    def test_free_after_the_refused_one_asks_elsewhere(self):
        self.assertEqual(
            numbers(opens(), opens(), bind(0, 0, 80), bind(1, 7, 80), bind(1, 7, 81)), [0, 1, 80, -4, 81])


class GivenAPort(unittest.TestCase):
    def test_one_behind_another(self):
        self.assertEqual(
            numbers(opens(), opens(), opens(), bind(0, 0, 0), bind(1, 5, 0), bind(2, 0, 0)),
            [0, 1, 2, 49152, 49153, 49154])

    def test_round_behind_65535(self):
        self.assertEqual(
            numbers(begins(16382), opens(), opens(), opens(), bind(0, 0, 0), bind(1, 0, 0), bind(2, 0, 0)),
            [0, 0, 1, 2, 65534, 65535, 49152])

    def test_a_port_that_a_socket_has_is_passed(self):
        self.assertEqual(
            numbers(opens(), opens(), opens(), bind(0, 0, 49152), bind(1, 0, 0), bind(2, 0, 0)),
            [0, 1, 2, 49152, 49153, 49154])

    def test_a_port_is_passed_whatever_the_addresses(self):
        self.assertEqual(numbers(opens(), opens(), bind(0, 3, 49152), bind(1, 4, 0)), [0, 1, 49152, 49153])

    def test_a_port_is_passed_though_who_has_it_has_a_peer(self):
        self.assertEqual(
            numbers(opens(), opens(), bind(0, 3, 49152), connect(0, 0, 5, 6), bind(1, 4, 0)),
            [0, 1, 49152, 49152, 49153])

    def test_several_are_passed_and_round(self):
        self.assertEqual(
            numbers(begins(16383), opens(), opens(), opens(), opens(), opens(), bind(0, 0, 65535), bind(1, 0, 49152),
                    bind(2, 0, 49153), bind(3, 0, 0), bind(4, 0, 0))[6:],
            [65535, 49152, 49153, 49154, 49155])

    def test_a_port_behind_the_turn_is_not_gone_back_for(self):
        self.assertEqual(
            numbers(begins(5), opens(), opens(), opens(), bind(0, 0, 0), close(0), bind(1, 0, 0), bind(2, 0, 0)),
            [0, 0, 1, 2, 49157, 0, 49158, 49159])

    def test_a_port_asked_for_leaves_the_turn(self):
        self.assertEqual(
            numbers(opens(), opens(), bind(0, 0, 60000), bind(1, 0, 0)), [0, 1, 60000, 49152])

    def test_the_turn_is_the_one_behind_what_was_given(self):
        self.assertEqual(
            numbers(opens(), opens(), opens(), bind(0, 0, 49152), bind(1, 0, 0), close(0), bind(2, 0, 0)),
            [0, 1, 2, 49152, 49153, 0, 49154])

    def test_a_refusal_leaves_the_turn(self):
        self.assertEqual(
            numbers(opens(), opens(), bind(0, EVERYBODY, 0), bind(9, 0, 0), bind(0, 0, 1), bind(0, 0, 0), bind(1, 0, 0)),
            [0, 1, -1, -2, 1, -4, 49152])

    def test_all_64_are_given_one(self):
        rows = [begins(16352)] + [opens()] * 64 + [bind(k, 0, 0) for k in range(64)]
        self.assertEqual(numbers(*rows)[65:], list(range(65504, 65536)) + list(range(49152, 49184)))


if __name__ == "__main__":
    unittest.main()
