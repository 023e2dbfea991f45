"""Promise 7: problem, and which socket has the error."""

import unittest

from tests.helper import (EVERYBODY, HUGE, arrives, begins, bind, close, connect, fails, hear, last, machine_with,
                          opens, packet, parts, problem, refused, send, take, told)

PEERED = (opens(), bind(0, 7, 80), connect(0, 0, 5, 6))
# The answers where socket 0 has something now, where it had something already, and where nobody has the error.
NOW = [1, 0, 0, 1, 2, 0]
ALREADY = [1, 0, 0, 0]
NOBODY = [0, 0, 0, 0]


class Problem(unittest.TestCase):
    def test_written_out(self):
        row = [81, 0, 2, 0, 0, 0, 0, 0, 0, 0, 0, 0, 1, 2, 3, 4, 5, 6, 7, 8, 9, 10, 11, 12]
        found = parts(opens(), bind(0, 0x01020304, 0x090A), connect(0, 0, 0x05060708, 0x0B0C), problem(3, 4, row),
                      take(0, 9))
        self.assertEqual(found[3:], [[1, 0, 0, 1, 2, 0], [2, 2, 3, 4, 0, 0]])

    def test_the_socket_has_this_error(self):
        for kind, n in ((1, 0), (3, 1500), (255, 4294967295), (1, 4294967295), (255, 0)):
            with self.subTest(kind=kind, n=n):
                found = parts(*PEERED, fails(kind, n, 7, 80, 5, 6), take(0, 9))
                self.assertEqual(found[3:], [NOW, [2, 2, kind, n, 0, 0]])

    def test_one_of_any_address(self):
        for f in (0, 1, 9, EVERYBODY):
            self.assertEqual(last(opens(), bind(0, 0, 80), connect(0, 0, 5, 6), fails(1, 2, f, 80, 5, 6)), NOW)

    def test_one_that_was_given_its_port(self):
        self.assertEqual(last(opens(), connect(0, 9, 5, 6), fails(1, 2, 9, 49152, 5, 6)), NOW)

    def test_of_what_was_sent(self):
        found = parts(*PEERED, send(0, 0, 0, 0, [1, 2, 3]))
        start = [81, 0, 2] + [0] * 9 + [0, 0, 0, 7, 0, 0, 0, 5]
        self.assertEqual(last(*PEERED, problem(1, 2, start + found[3][8:])), NOW)

    def test_nobody(self):
        for f, p, t, q in ((8, 80, 5, 6), (0, 80, 5, 6), (7, 81, 5, 6), (7, 0, 5, 6), (7, 80, 6, 6), (7, 80, 5, 7),
                           (7, 80, 0, 0), (7, 80, 0, 6), (7, 80, 5, 0), (5, 6, 7, 80), (7, 80, EVERYBODY, 6),
                           (7 + 2 ** 24, 80, 5, 6), (7, 80, 5 + 2 ** 24, 6), (7, 80 + 256, 5, 6), (7, 80, 5, 6 + 256)):
            with self.subTest(f=f, p=p, t=t, q=q):
                found = parts(*PEERED, fails(1, 2, f, p, t, q), take(0, 9))
                self.assertEqual(found[3:], [NOBODY, [0, 0, 0, 0]])

    def test_there_are_no_sockets(self):
        self.assertEqual(last(fails(1, 2, 7, 80, 5, 6)), NOBODY)
        self.assertEqual(last(*PEERED, close(0), fails(1, 2, 7, 80, 5, 6)), NOBODY)
        self.assertEqual(last(*PEERED, begins(0), fails(1, 2, 7, 80, 5, 6)), NOBODY)

    def test_one_without_a_peer(self):
        self.assertEqual(last(opens(), bind(0, 7, 80), fails(1, 2, 7, 80, 5, 6)), NOBODY)
        self.assertEqual(last(opens(), bind(0, 7, 80), send(0, 0, 5, 6, []), fails(1, 2, 7, 80, 5, 6)), NOBODY)
        self.assertEqual(last(*PEERED, connect(0, 0, 0, 0), fails(1, 2, 7, 80, 5, 6)), NOBODY)

    def test_to_address_0_and_port_0(self):
        for address in (0, 7):
            self.assertEqual(last(opens(), bind(0, address, 80), fails(1, 2, 7, 80, 0, 0)), NOBODY)
            self.assertEqual(last(opens(), bind(0, address, 80), fails(1, 2, 0, 80, 0, 0)), NOBODY)
        self.assertEqual(last(opens(), fails(1, 2, 0, 0, 0, 0)), NOBODY)
        self.assertEqual(last(*PEERED, connect(0, 0, 0, 0), fails(1, 2, 7, 80, 0, 0)), NOBODY)

    def test_from_port_0(self):
        self.assertEqual(last(opens(), *PEERED[1:], opens(), fails(1, 2, 7, 0, 5, 6)), NOBODY)

    def test_whether_it_hears_is_not_looked_at(self):
        self.assertEqual(last(*PEERED, hear(0, 1), fails(1, 2, 7, 80, EVERYBODY, 6)), NOBODY)
        self.assertEqual(last(*PEERED, hear(0, 1), fails(1, 2, 7, 80, 5, 6)), NOW)

    def test_just_the_one_whose_peer_is_there(self):
        rows = (opens(), opens(), opens(), bind(0, 7, 80), connect(0, 0, 5, 7), bind(1, 7, 80), connect(1, 0, 5, 6),
                bind(2, 7, 80), fails(1, 2, 7, 80, 5, 6), take(0, 9), take(1, 9), take(2, 9))
        self.assertEqual(parts(*rows)[8:], [[1, 0, 0, 1, 2, 1], [0, 0, 0, 0], [2, 2, 1, 2, 0, 0], [0, 0, 0, 0]])

    def by_hand(self, machine, *addresses):
        """Which socket has the error, where they're put there by hand: by the calls, two such would meet."""
        for k, address in enumerate(addresses):
            machine.sockets[k].address = address
            machine.sockets[k].port = 80
            machine.sockets[k].peer = (5, 6)
        answer = machine.problem(3, 4, packet(7, 80, 5, 6))
        self.assertEqual(answer.number, 1)
        found = [k for k in range(len(addresses)) if machine.sockets[k].error is not None]
        self.assertEqual(answer.wanted, [[2, k] for k in found])
        return found

    def test_the_first_socket(self):
        self.assertEqual(self.by_hand(machine_with(3), 7, 7, 7), [0])
        self.assertEqual(self.by_hand(machine_with(3), 0, 7, 7), [0])
        self.assertEqual(self.by_hand(machine_with(3), 8, 0, 7), [1])
        self.assertEqual(self.by_hand(machine_with(3), 8, 9, 7), [2])

    def test_the_first_is_that_by_number_not_by_age(self):
        machine = machine_with(2)
        machine.close(0)
        machine.opens()
        self.assertEqual(self.by_hand(machine, 7, 7), [0])


class SomethingNow(unittest.TestCase):
    def test_if_it_had_none_and_nothing_waits(self):
        self.assertEqual(last(*PEERED, fails(1, 2, 7, 80, 5, 6)), NOW)

    def test_not_where_something_waits(self):
        self.assertEqual(last(*PEERED, arrives(5, 6, 7, 80, []), fails(1, 2, 7, 80, 5, 6)), ALREADY)

    def test_a_second_error_in_the_place_of_the_first(self):
        found = parts(*PEERED, fails(1, 2, 7, 80, 5, 6), fails(3, 4, 7, 80, 5, 6), take(0, 9), take(0, 9))
        self.assertEqual(found[3:], [NOW, ALREADY, [2, 2, 3, 4, 0, 0], [0, 0, 0, 0]])

    def test_again_once_the_error_is_taken(self):
        self.assertEqual(last(*PEERED, fails(1, 2, 7, 80, 5, 6), take(0, 9), fails(1, 2, 7, 80, 5, 6)), NOW)

    def test_not_once_only_the_error_is_taken(self):
        before = (*PEERED, arrives(5, 6, 7, 80, []), fails(1, 2, 7, 80, 5, 6), take(0, 9))
        self.assertEqual(last(*before, fails(1, 2, 7, 80, 5, 6)), ALREADY)
        self.assertEqual(last(*before, take(0, 9), fails(1, 2, 7, 80, 5, 6)), NOW)

    def test_an_error_is_no_loss_and_does_not_wait(self):
        self.assertEqual(last(*PEERED, fails(1, 2, 7, 80, 5, 6), told(0)), [0, 6, 7, 80, 5, 6, 0, 0, 0, 0])

    def test_it_stays_where_the_peer_is_let_go_or_another(self):
        for t, p in ((0, 0), (8, 9), (5, 6)):
            self.assertEqual(last(*PEERED, fails(1, 2, 7, 80, 5, 6), connect(0, 0, t, p), take(0, 9)),
                             [2, 2, 1, 2, 0, 0])

    def test_one_opened_anew_has_none(self):
        self.assertEqual(last(*PEERED, fails(1, 2, 7, 80, 5, 6), close(0), opens(), take(0, 9)), [0, 0, 0, 0])


class Refusals(unittest.TestCase):
    def refused(self, row):
        answer = refused(PEERED, row)
        self.assertEqual(len(answer), 1)
        return answer[0]

    def test_the_kind(self):
        for kind in (0, 256, 257, HUGE):
            self.assertEqual(self.refused(fails(kind, 2, 7, 80, 5, 6)), -1)
        for kind in (1, 2, 254, 255):
            self.assertEqual(last(*PEERED, fails(kind, 2, 7, 80, 5, 6)), NOW)

    def test_n(self):
        for n in (4294967296, 4294967297, HUGE):
            self.assertEqual(self.refused(fails(1, n, 7, 80, 5, 6)), -1)
        for n in (0, 1, 4294967294, 4294967295):
            self.assertEqual(last(*PEERED, fails(1, n, 7, 80, 5, 6)), NOW)

    def test_24_bytes_at_least(self):
        row = packet(7, 80, 5, 6)
        self.assertEqual(len(row), 24)
        for size in (0, 1, 2, 3, 8, 20, 23):
            self.assertEqual(self.refused(problem(1, 2, row[:size])), -3)
        for behind in ([], [0], [255] * 100, [1] * 15776):
            self.assertEqual(last(*PEERED, problem(1, 2, row + behind)), NOW)

    def test_the_first_is_81(self):
        for first in (0, 69, 80, 82, 255):
            self.assertEqual(self.refused(problem(1, 2, [first] + packet(7, 80, 5, 6)[1:])), -3)

    def test_the_third_is_2(self):
        row = packet(7, 80, 5, 6)
        for third in (0, 1, 3, 17, 255):
            self.assertEqual(self.refused(problem(1, 2, row[:2] + [third] + row[3:])), -3)

    def test_the_others_are_not_looked_at(self):
        row = packet(7, 80, 5, 6)
        for at in (1, 3, 4, 5, 6, 7, 8, 9, 10, 11):
            self.assertEqual(last(*PEERED, problem(1, 2, row[:at] + [0] + row[at + 1:])), NOW)

    def test_no_packet_where_nobody_is(self):
        self.assertEqual(last(problem(1, 2, [])), [-3])

    def test_not_as_told_is_ahead_of_no_packet(self):
        for row in ([], packet(7, 80, 5, 6)[:23], [0] * 24):
            self.assertEqual(self.refused(problem(0, 2, row)), -1)
            self.assertEqual(self.refused(problem(256, 2, row)), -1)
            self.assertEqual(self.refused(problem(1, 4294967296, row)), -1)

    def test_an_error_before_is_kept_by_a_refusal(self):
        for row in (fails(256, 4, 7, 80, 5, 6), problem(3, 4, packet(7, 80, 5, 6)[:23])):
            self.assertEqual(last(*PEERED, fails(1, 2, 7, 80, 5, 6), row, take(0, 9)), [2, 2, 1, 2, 0, 0])


if __name__ == "__main__":
    unittest.main()
