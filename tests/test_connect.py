"""Promise 3: connect, with a peer and without."""

import unittest

from singlemail.sockets import Message, Socket
from tests.helper import (EVERYBODY, HUGE, arrives, begins, bind, close, connect, fails, last, machine_with, numbers,
                          opens, parts, state, take, told)


class Connect(unittest.TestCase):
    def test_one_that_has_no_place_is_given_one(self):
        machine = machine_with(1)
        self.assertEqual(machine.connect(0, 9, 5, 6), 49152)
        self.assertEqual(state(machine), (49153, {0: (9, 49152, (5, 6), 0, [], None, 0)}))

    def test_one_that_has_an_address_and_a_port_keeps_them(self):
        machine = machine_with(1)
        machine.bind(0, 8, 80)
        self.assertEqual(machine.connect(0, 9, 5, 6), 80)
        self.assertEqual(state(machine), (49152, {0: (8, 80, (5, 6), 0, [], None, 0)}))

    def test_one_with_a_port_and_any_address_has_a_for_its_address(self):
        machine = machine_with(1)
        machine.bind(0, 0, 80)
        self.assertEqual(machine.connect(0, 9, 5, 6), 80)
        self.assertEqual(state(machine), (49152, {0: (9, 80, (5, 6), 0, [], None, 0)}))

    def test_an_address_of_0_stays_any(self):
        machine = machine_with(1)
        self.assertEqual(machine.connect(0, 0, 5, 6), 49152)
        self.assertEqual(state(machine)[1][0][0], 0)
        self.assertEqual(machine.connect(0, 9, 5, 6), 49152)
        self.assertEqual(state(machine)[1][0][0], 9)

    def test_anew_with_another_peer(self):
        machine = machine_with(1)
        machine.connect(0, 9, 5, 6)
        self.assertEqual(machine.connect(0, 10, 7, 8), 49152)
        self.assertEqual(state(machine), (49153, {0: (9, 49152, (7, 8), 0, [], None, 0)}))

    def test_anew_with_the_same_peer(self):
        self.assertEqual(numbers(opens(), connect(0, 0, 5, 6), connect(0, 0, 5, 6)), [0, 49152, 49152])

    def test_whether_it_hears_stays(self):
        machine = machine_with(1)
        machine.hear(0, 1)
        machine.connect(0, 0, 5, 6)
        machine.connect(0, 0, 0, 0)
        self.assertEqual(machine.sockets[0].hears, 1)

    def test_edges_of_the_ranges(self):
        for a, t, p in ((0, 1, 1), (EVERYBODY - 1, EVERYBODY - 1, 65535), (0, EVERYBODY - 1, 1), (1, 1, 65535)):
            with self.subTest(a=a, t=t, p=p):
                self.assertEqual(numbers(opens(), connect(0, a, t, p)), [0, 49152])
        self.assertEqual(numbers(opens(), connect(0, EVERYBODY - 1, 0, 0)), [0, 0])

    def test_ports_are_given_by_the_turn(self):
        self.assertEqual(
            numbers(begins(16382), opens(), opens(), opens(), opens(), bind(0, 3, 65535), connect(1, 4, 5, 6),
                    connect(2, 4, 5, 6), bind(3, 0, 0)),
            [0, 0, 1, 2, 3, 65535, 65534, 49152, 49153])

    def test_one_that_has_a_port_leaves_the_turn(self):
        self.assertEqual(
            numbers(opens(), opens(), bind(0, 0, 80), connect(0, 0, 5, 6), connect(1, 0, 5, 6)), [0, 1, 80, 80, 49152])


class WhatWaits(unittest.TestCase):
    def setUp(self):
        self.machine = machine_with(2)
        senders = ((5, 6), (5, 7), (6, 6), (5, 6), (0, 0), (6, 5))
        self.messages = [Message(sender, 1, [number]) for number, sender in enumerate(senders)]
        for socket in self.machine.sockets.values():
            socket.queue = list(self.messages)

    def waiting(self, k):
        return [message.body[0] for message in self.machine.sockets[k].queue]

    def test_what_waits_from_others_is_dropped(self):
        self.machine.connect(0, 0, 5, 6)
        self.assertEqual(self.waiting(0), [0, 3])

    def test_another_sockets_queue_stays(self):
        self.machine.connect(0, 0, 5, 6)
        self.assertEqual(self.waiting(1), [0, 1, 2, 3, 4, 5])

    def test_nothing_is_left_of_a_peer_that_sent_nothing(self):
        self.machine.connect(0, 0, 9, 9)
        self.assertEqual(self.waiting(0), [])

    def test_all_stays_where_a_peer_is_let_go(self):
        self.machine.connect(0, 0, 0, 0)
        self.assertEqual(self.waiting(0), [0, 1, 2, 3, 4, 5])

    def test_all_stays_where_it_is_refused(self):
        self.machine.bind(0, 0, 80)
        self.machine.connect(0, 0, 5, 6)
        self.machine.bind(1, 0, 80)
        self.assertEqual(self.machine.connect(1, 0, 5, 6), -4)
        self.assertEqual(self.waiting(1), [0, 1, 2, 3, 4, 5])


class WhatWaitsByCalls(unittest.TestCase):
    """Who sent what waits, as far as calls tell: by told how many, by take from whom."""

    def setUp(self):
        senders = ((5, 6), (5, 7), (6, 6), (5, 6), (0, 0), (6, 5))
        self.before = [opens(), opens(), bind(0, 7, 80), bind(1, 8, 80)]
        self.before += [arrives(f, p, t, 80, [at]) for at, (f, p) in enumerate(senders) for t in (7, 8)]

    def waiting(self, k, *rows):
        found = parts(*self.before, *rows, told(k), *[take(k, 1) for step in range(7)])[-8:]
        bodies = [part[7] for part in found[1:] if part[0] == 1]
        self.assertEqual(found[0][6:8], [len(bodies), 0])
        return bodies

    def test_what_waits_from_others_is_dropped(self):
        self.assertEqual(self.waiting(0, connect(0, 0, 5, 6)), [0, 3])
        self.assertEqual(self.waiting(0, connect(0, 0, 6, 5)), [5])
        self.assertEqual(self.waiting(0, connect(0, 0, 9, 9)), [])

    def test_another_sockets_queue_stays(self):
        self.assertEqual(self.waiting(1, connect(0, 0, 5, 6)), [0, 1, 2, 3, 4, 5])

    def test_the_same_peer_again_drops_nothing_more(self):
        self.assertEqual(self.waiting(0, connect(0, 0, 5, 6), connect(0, 0, 5, 6)), [0, 3])

    def test_another_peer_then_drops_the_rest(self):
        self.assertEqual(self.waiting(0, connect(0, 0, 5, 6), connect(0, 0, 5, 7)), [])

    def test_all_stays_where_a_peer_is_let_go(self):
        self.assertEqual(self.waiting(0, connect(0, 0, 0, 0)), [0, 1, 2, 3, 4, 5])
        self.assertEqual(self.waiting(0, connect(0, 0, 5, 6), connect(0, 0, 0, 0)), [0, 3])

    def test_all_stays_where_it_is_refused(self):
        rows = (opens(), connect(0, 0, 9, 9), bind(2, 7, 80), arrives(5, 6, 7, 80, [1]), arrives(3, 4, 7, 80, [2]))
        self.assertEqual(self.waiting(2, *rows, connect(2, 0, 9, 9)), [1, 2])
        self.assertEqual(self.waiting(0, connect(0, EVERYBODY, 5, 6), connect(0, 0, 5, 0)), [0, 1, 2, 3, 4, 5])

    def test_nothing_is_wanted_and_told(self):
        self.assertEqual(last(*self.before, connect(0, 0, 5, 6)), [80, 0, 0, 0])

    def test_what_is_dropped_leaves_room(self):
        rows = [arrives(3, 4, 7, 80, []) for step in range(26)] + [connect(0, 0, 5, 6)]
        rows += [arrives(5, 6, 7, 80, [9]) for step in range(31)]
        self.assertEqual(last(*self.before, *rows, told(0)), [0, 6, 7, 80, 5, 6, 32, 1, 0, 0])

    def test_an_error_is_not_dropped(self):
        self.assertEqual(last(*self.before, connect(0, 0, 5, 6), fails(3, 4, 7, 80, 5, 6), connect(0, 0, 8, 9),
                              take(0, 9)), [2, 2, 3, 4, 0, 0])


class PeerLetGo(unittest.TestCase):
    def test_answers_0_and_keeps_the_place(self):
        machine = machine_with(1)
        machine.connect(0, 9, 5, 6)
        self.assertEqual(machine.connect(0, 10, 0, 0), 0)
        self.assertEqual(state(machine), (49153, {0: (9, 49152, (0, 0), 0, [], None, 0)}))

    def test_any_address_stays_any(self):
        machine = machine_with(1)
        machine.connect(0, 0, 5, 6)
        self.assertEqual(machine.connect(0, 10, 0, 0), 0)
        self.assertEqual(state(machine), (49153, {0: (0, 49152, (0, 0), 0, [], None, 0)}))

    def test_one_without_anything_is_given_nothing(self):
        machine = machine_with(2)
        before = state(machine)
        self.assertEqual(machine.connect(0, 9, 0, 0), 0)
        self.assertEqual(state(machine), before)

    def test_one_without_a_peer_stays_so(self):
        machine = machine_with(1)
        machine.bind(0, 3, 80)
        before = state(machine)
        self.assertEqual(machine.connect(0, 9, 0, 0), 0)
        self.assertEqual(state(machine), before)

    def test_another_without_a_peer_meets_it(self):
        for first, second in ((7, 7), (0, 7), (7, 0), (0, 0)):
            with self.subTest(first=first, second=second):
                machine = machine_with(2)
                machine.bind(0, first, 80)
                machine.connect(0, 0, 5, 6)
                self.assertEqual(machine.bind(1, second, 80), 80)
                before = state(machine)
                self.assertEqual(machine.connect(0, 0, 0, 0), -4)
                self.assertEqual(state(machine), before)
                machine.close(1)
                self.assertEqual(machine.connect(0, 0, 0, 0), 0)

    def test_a_is_not_looked_at_for_meeting(self):
        self.assertEqual(
            numbers(opens(), opens(), bind(0, 7, 80), connect(0, 0, 5, 6), bind(1, 8, 80), connect(0, 8, 0, 0)),
            [0, 1, 80, 80, 80, 0])

    def test_one_with_a_peer_is_not_in_the_way(self):
        self.assertEqual(
            numbers(opens(), opens(), bind(0, 7, 80), connect(0, 0, 5, 6), bind(1, 7, 80), connect(1, 0, 5, 7),
                    connect(0, 0, 0, 0), connect(1, 0, 0, 0)),
            [0, 1, 80, 80, 80, 80, 0, -4])

    def test_its_peer_is_free_for_another(self):
        self.assertEqual(
            numbers(opens(), opens(), bind(0, 7, 80), connect(0, 0, 5, 6), bind(1, 7, 80), connect(1, 0, 5, 6),
                    connect(1, 0, 5, 7), connect(0, 0, 0, 0), connect(1, 0, 5, 6)),
            [0, 1, 80, 80, 80, -4, 80, 0, 80])


class Meeting(unittest.TestCase):
    """Two sockets with one port: the first binds and connects ahead of the second's bind."""

    def both(self, first, second, peer=(5, 6), other=(5, 6), a=0):
        return numbers(opens(), opens(), bind(0, first, 80), connect(0, 0, peer[0], peer[1]), bind(1, second, 80),
                       connect(1, a, other[0], other[1]))[5]

    def test_same_peer_and_place(self):
        self.assertEqual(self.both(7, 7), -4)
        self.assertEqual(self.both(0, 0), -4)

    def test_an_address_of_0_on_either_side(self):
        self.assertEqual(self.both(0, 7), -4)
        self.assertEqual(self.both(7, 0), -4)

    def test_other_addresses_dont_meet(self):
        self.assertEqual(self.both(7, 8), 80)

    def test_with_another_peer_it_is_not_in_the_way(self):
        self.assertEqual(self.both(7, 7, other=(5, 7)), 80)
        self.assertEqual(self.both(7, 7, other=(6, 6)), 80)
        self.assertEqual(self.both(7, 7, other=(6, 5)), 80)

    def test_meeting_is_asked_with_the_address_that_it_has_then(self):
        self.assertEqual(self.both(7, 0, a=8), 80)
        self.assertEqual(self.both(7, 0, a=7), -4)
        self.assertEqual(self.both(7, 8, a=7), 80)
        self.assertEqual(self.both(7, 7, a=8), -4)

    def test_one_without_a_peer_is_not_in_the_way(self):
        self.assertEqual(
            numbers(opens(), opens(), bind(0, 7, 80), connect(0, 0, 5, 6), bind(1, 7, 80), connect(0, 0, 6, 6)),
            [0, 1, 80, 80, 80, 80])

    def test_other_ports_dont_meet(self):
        self.assertEqual(
            numbers(opens(), opens(), bind(0, 7, 80), connect(0, 0, 5, 6), bind(1, 7, 81), connect(1, 0, 5, 6)),
            [0, 1, 80, 80, 81, 81])

    def test_ports_that_are_given_never_meet(self):
        self.assertEqual(numbers(opens(), opens(), connect(0, 0, 5, 6), connect(1, 0, 5, 6)), [0, 1, 49152, 49153])

    def test_after_the_other_is_closed(self):
        self.assertEqual(
            numbers(opens(), opens(), bind(0, 7, 80), connect(0, 0, 5, 6), bind(1, 7, 80), connect(1, 0, 5, 6),
                    close(0), connect(1, 0, 5, 6)),
            [0, 1, 80, 80, 80, -4, 0, 80])


class Refusals(unittest.TestCase):
    def refused(self, machine, row, answer):
        before = state(machine)
        self.assertEqual(machine.connect(row[0], row[1], row[2], row[3]), answer)
        self.assertEqual(state(machine), before)

    def test_numbers_not_as_told(self):
        for machine in (machine_with(1), machine_with(0)):
            for a, t, p in ((EVERYBODY, 5, 6), (EVERYBODY + 1, 5, 6), (HUGE, 5, 6), (EVERYBODY, 0, 0),
                            (0, EVERYBODY, 6), (0, EVERYBODY + 1, 6), (0, HUGE, 6), (0, EVERYBODY, 0),
                            (0, 5, 65536), (0, 5, HUGE), (0, 0, 65536), (HUGE, HUGE, HUGE)):
                with self.subTest(a=a, t=t, p=p):
                    self.refused(machine, (0, a, t, p), -1)

    def test_p_is_0_just_if_t_is(self):
        for machine in (machine_with(1), machine_with(0)):
            for t, p in ((0, 1), (0, 65535), (1, 0), (EVERYBODY - 1, 0)):
                with self.subTest(t=t, p=p):
                    self.refused(machine, (0, 0, t, p), -1)

    def test_no_such_socket(self):
        machine = machine_with(1)
        for k in (-2147483648, -1, 1, 63, 64, 2147483647):
            with self.subTest(k=k):
                self.refused(machine, (k, 0, 5, 6), -2)
                self.refused(machine, (k, 0, 0, 0), -2)

    def test_another_with_this_peer_meets_it(self):
        machine = machine_with(2)
        machine.bind(0, 7, 80)
        machine.connect(0, 0, 5, 6)
        machine.bind(1, 0, 80)
        self.refused(machine, (1, 0, 5, 6), -4)
        self.refused(machine, (1, 7, 5, 6), -4)

    def test_the_peer_before_is_kept_by_a_refusal(self):
        machine = machine_with(2)
        machine.bind(0, 7, 80)
        machine.connect(0, 0, 5, 6)
        machine.bind(1, 7, 80)
        machine.connect(1, 0, 5, 7)
        self.refused(machine, (1, 0, 5, 6), -4)

    def test_not_as_told_is_ahead_of_what_is_in_the_way(self):
        machine = machine_with(2)
        machine.bind(0, 7, 80)
        machine.connect(0, 0, 5, 6)
        machine.bind(1, 7, 80)
        self.refused(machine, (1, EVERYBODY, 5, 6), -1)
        self.refused(machine, (0, EVERYBODY, 0, 0), -1)

    def test_none_is_free(self):
        # 64 sockets can't have all these ports by the calls, so they're put there by hand.
        machine = machine_with(1)
        for port in range(49152, 65536):
            machine.sockets[port] = Socket()
            machine.sockets[port].port = port
        self.refused(machine, (0, 9, 5, 6), -5)
        self.assertEqual(machine.connect(0, 9, 0, 0), 0)
        machine.sockets.pop(65535)
        self.assertEqual(machine.connect(0, 9, 5, 6), 65535)
        self.assertEqual(machine.turn, 49152)


if __name__ == "__main__":
    unittest.main()
