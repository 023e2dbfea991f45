"""Promise 5: send."""

import unittest

from singlemail.sockets import Socket
from tests.helper import (EVERYBODY, HUGE, arrives, begins, bind, close, connect, datagram, fails, hear, last,
                          machine_with, numbers, opens, parts, refused, send, state, take, told)


def wanted(f, p, t, q, body):
    """A packet wanted, and nothing else."""
    row = datagram(f, p, t, q, body)
    return [0, 0, 0, 1, 0, f, t, len(row)] + row


class Send(unittest.TestCase):
    def test_written_out(self):
        self.assertEqual(last(opens(), bind(0, 1, 3), send(0, 0, 2, 4, [])),
                         [0, 0, 0, 1, 0, 1, 2, 8, 0, 3, 0, 4, 0, 8, 255, 227])

    def test_to_t_and_p(self):
        for body in ([], [1], [1, 2], list(range(256))):
            self.assertEqual(last(opens(), bind(0, 7, 80), send(0, 0, 5, 6, body)), wanted(7, 80, 5, 6, body))

    def test_t_0_and_p_0_is_to_its_peer(self):
        self.assertEqual(last(opens(), bind(0, 7, 80), connect(0, 0, 5, 6), send(0, 0, 0, 0, [1])),
                         wanted(7, 80, 5, 6, [1]))

    def test_to_the_peer_that_it_has_now(self):
        before = (opens(), bind(0, 7, 80), connect(0, 0, 5, 6), connect(0, 0, 8, 9))
        self.assertEqual(last(*before, send(0, 0, 0, 0, [1])), wanted(7, 80, 8, 9, [1]))
        self.assertEqual(last(*before, connect(0, 0, 0, 0), send(0, 0, 3, 4, [1])), wanted(7, 80, 3, 4, [1]))

    def test_to_everybody(self):
        self.assertEqual(last(opens(), bind(0, 7, 80), send(0, 0, EVERYBODY, 6, [1])),
                         wanted(7, 80, EVERYBODY, 6, [1]))

    def test_whether_it_hears_is_not_looked_at(self):
        self.assertEqual(last(opens(), bind(0, 7, 80), hear(0, 1), send(0, 0, EVERYBODY, 6, [])),
                         wanted(7, 80, EVERYBODY, 6, []))

    def test_edges_of_the_ranges(self):
        for a, t, p in ((1, 1, 1), (EVERYBODY - 1, EVERYBODY, 65535), (EVERYBODY - 1, EVERYBODY - 1, 1)):
            with self.subTest(a=a, t=t, p=p):
                self.assertEqual(last(opens(), bind(0, 0, 80), send(0, a, t, p, [1])), wanted(a, 80, t, p, [1]))

    def test_what_is_sent_to_its_own_place_does_not_come_by_itself(self):
        found = parts(opens(), bind(0, 7, 80), send(0, 0, 7, 80, [1]), told(0))
        self.assertEqual(found[2:], [wanted(7, 80, 7, 80, [1]), [0, 6, 7, 80, 0, 0, 0, 0, 0, 0]])

    def test_it_takes_neither_error_nor_what_waits(self):
        found = parts(opens(), bind(0, 7, 80), connect(0, 0, 5, 6), arrives(5, 6, 7, 80, [1]),
                      fails(3, 4, 7, 80, 5, 6), send(0, 0, 0, 0, [2]), take(0, 9), take(0, 9))
        self.assertEqual(found[5:], [wanted(7, 80, 5, 6, [2]), [2, 2, 3, 4, 0, 0], [1, 4, 5, 6, 7, 1, 1, 1, 0]])


class FromWhere(unittest.TestCase):
    def test_from_its_address_whatever_a_is(self):
        for a in (0, 7, 9, EVERYBODY - 1):
            self.assertEqual(last(opens(), bind(0, 7, 80), send(0, a, 5, 6, [1])), wanted(7, 80, 5, 6, [1]))

    def test_from_a_where_it_has_none(self):
        for a in (0, 9, EVERYBODY - 1):
            self.assertEqual(last(opens(), bind(0, 0, 80), send(0, a, 5, 6, [1])), wanted(a, 80, 5, 6, [1]))

    def test_its_address_stays_any(self):
        found = parts(opens(), bind(0, 0, 80), send(0, 9, 5, 6, []), told(0), send(0, 8, 5, 6, []))
        self.assertEqual(found[3:], [[0, 6, 0, 80, 0, 0, 0, 0, 0, 0], wanted(8, 80, 5, 6, [])])

    def test_its_address_stays_any_where_a_port_is_given(self):
        found = parts(opens(), send(0, 9, 5, 6, []), told(0))
        self.assertEqual(found[1:], [wanted(9, 49152, 5, 6, []), [0, 6, 0, 49152, 0, 0, 0, 0, 0, 0]])

    def test_with_a_peer_and_any_address(self):
        found = parts(opens(), connect(0, 0, 5, 6), send(0, 9, 0, 0, []), told(0))
        self.assertEqual(found[2:], [wanted(9, 49152, 5, 6, []), [0, 6, 0, 49152, 5, 6, 0, 0, 0, 0]])

    def test_it_has_no_peer_by_sending(self):
        found = parts(opens(), send(0, 0, 5, 6, []), send(0, 0, 0, 0, []), send(0, 0, 7, 8, []))
        self.assertEqual(found[1:], [wanted(0, 49152, 5, 6, []), [-4], wanted(0, 49152, 7, 8, [])])


class GivenAPort(unittest.TestCase):
    def test_once(self):
        found = parts(opens(), send(0, 9, 5, 6, []), send(0, 9, 5, 6, []))
        self.assertEqual(found[1:], [wanted(9, 49152, 5, 6, [])] * 2)

    def test_the_turn_behind_it(self):
        found = parts(begins(16382), opens(), opens(), opens(), opens(), opens(), bind(4, 3, 65535),
                      send(0, 9, 5, 6, []), send(1, 9, 5, 6, []), connect(2, 0, 5, 6), send(3, 9, 5, 6, []))
        self.assertEqual(found[7:], [wanted(9, 65534, 5, 6, []), wanted(9, 49152, 5, 6, []), [49153, 0, 0, 0],
                                     wanted(9, 49154, 5, 6, [])])

    def test_one_that_has_a_port_leaves_the_turn(self):
        self.assertEqual(last(opens(), opens(), bind(0, 0, 80), send(0, 0, 5, 6, []), send(1, 9, 5, 6, [])),
                         wanted(9, 49152, 5, 6, []))

    def test_the_port_is_its_own_then(self):
        found = parts(opens(), opens(), send(0, 9, 5, 6, []), bind(1, 7, 49152), bind(0, 0, 80),
                      arrives(5, 6, 9, 49152, [1]), close(0), bind(1, 7, 49152))
        self.assertEqual(found[3:], [[-4], [-4], [1, 0, 0, 1, 2, 0], [0, 0, 0, 0], [49152, 0, 0, 0]])


class Refusals(unittest.TestCase):
    def setUp(self):
        # 0 has nothing, 1 a place, 2 a place and a peer, 3 a peer and any address.
        self.before = (opens(), opens(), opens(), opens(), bind(1, 7, 80), bind(2, 7, 81), connect(2, 0, 5, 6),
                       connect(3, 0, 5, 6))

    def refused(self, row):
        answer = refused(self.before, row)
        self.assertEqual(len(answer), 1)
        return answer[0]

    def test_numbers_not_as_told(self):
        for k in (0, 1, 2, 3, 4, -1):
            for a, t, p in ((EVERYBODY, 5, 6), (EVERYBODY + 1, 5, 6), (HUGE, 5, 6), (EVERYBODY, 0, 0),
                            (0, EVERYBODY + 1, 6), (0, HUGE, 6), (0, 5, 65536), (0, 5, HUGE), (0, 0, 65536)):
                with self.subTest(k=k, a=a, t=t, p=p):
                    self.assertEqual(self.refused(send(k, a, t, p, [1])), -1)

    def test_p_is_0_just_if_t_is(self):
        for k in (0, 1, 2, 3, 4, -1):
            for t, p in ((0, 1), (0, 65535), (1, 0), (EVERYBODY, 0)):
                with self.subTest(k=k, t=t, p=p):
                    self.assertEqual(self.refused(send(k, 0, t, p, [])), -1)

    def test_no_such_socket(self):
        for k in (-2147483648, -1, 4, 63, 64, 2147483647):
            with self.subTest(k=k):
                self.assertEqual(self.refused(send(k, 0, 5, 6, [])), -2)
                self.assertEqual(self.refused(send(k, 0, 0, 0, [])), -2)
                self.assertEqual(self.refused(send(k, 0, 5, 6, [0] * 65508)), -2)

    def test_neither_is_there(self):
        self.assertEqual(self.refused(send(0, 9, 0, 0, [1])), -4)
        self.assertEqual(self.refused(send(1, 9, 0, 0, [1])), -4)

    def test_it_has_a_peer_and_t_is_not_0(self):
        for k in (2, 3):
            self.assertEqual(self.refused(send(k, 9, 5, 6, [1])), -4)
            self.assertEqual(self.refused(send(k, 9, 5, 7, [1])), -4)
            self.assertEqual(self.refused(send(k, 9, EVERYBODY, 6, [1])), -4)

    def test_the_body_has_more_than_65507_bytes(self):
        for size in (65508, 65509, 65536, 100000):
            self.assertEqual(self.refused(send(0, 9, 5, 6, [1] * size)), -7)
            self.assertEqual(self.refused(send(1, 9, 5, 6, [1] * size)), -7)
            self.assertEqual(self.refused(send(2, 9, 0, 0, [1] * size)), -7)

    def test_the_body_has_just_65507_bytes(self):
        self.assertEqual(last(*self.before, send(1, 9, 5, 6, [1] * 65507)), wanted(7, 80, 5, 6, [1] * 65507))

    def test_the_first_that_is_so(self):
        long = [1] * 65508
        self.assertEqual(self.refused(send(9, EVERYBODY, 5, 6, long)), -1)
        self.assertEqual(self.refused(send(2, 0, 5, 65536, long)), -1)
        self.assertEqual(self.refused(send(9, 0, 5, 6, long)), -2)
        self.assertEqual(self.refused(send(2, 0, 5, 6, long)), -4)
        self.assertEqual(self.refused(send(0, 0, 0, 0, long)), -4)

    def test_no_port_is_given_and_no_turn_by_a_refusal(self):
        self.assertEqual(numbers(opens(), opens(), send(0, 0, 0, 0, []), send(0, EVERYBODY, 5, 6, []),
                                 send(0, 0, 5, 6, [1] * 65508), send(0, 0, 5, 0, []), bind(0, 0, 0), bind(1, 0, 0)),
                         [0, 1, -4, -1, -7, -1, 49152, 49153])

    def test_none_is_free(self):
        # 64 sockets can't have all these ports by the calls, so they're put there by hand.
        machine = machine_with(1)
        for port in range(49152, 65536):
            machine.sockets[port] = Socket()
            machine.sockets[port].port = port
        before = state(machine)
        self.assertEqual(machine.send(0, 9, 5, 6, [1]).number, -5)
        self.assertEqual(machine.send(0, 9, 5, 6, [1] * 65508).number, -7)
        self.assertEqual(machine.send(0, 9, 0, 0, [1]).number, -4)
        self.assertEqual(state(machine), before)
        self.assertEqual(machine.send(60000, 9, 5, 6, [1]).number, 0)
        machine.sockets.pop(60000)
        self.assertEqual(machine.send(0, 9, 5, 6, [1]).number, 0)
        self.assertEqual((machine.sockets[0].port, machine.turn), (60000, 60001))


if __name__ == "__main__":
    unittest.main()
