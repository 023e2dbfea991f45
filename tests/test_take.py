"""Promise 8: take."""

import unittest

from tests.helper import (EVERYBODY, HUGE, arrives, bind, close, connect, fails, hear, last, opens, parts, refused,
                          take, told)

PLACED = (opens(), bind(0, 7, 80))
PEERED = (*PLACED, connect(0, 0, 5, 6))
NOTHING = [0, 0, 0, 0]


class Take(unittest.TestCase):
    def test_nothing(self):
        self.assertEqual(last(opens(), take(0, 9)), NOTHING)
        self.assertEqual(last(*PEERED, take(0, 0)), NOTHING)

    def test_the_first_that_waits_is_gone_then(self):
        found = parts(*PLACED, arrives(5, 6, 7, 80, [1, 2]), arrives(3, 4, 7, 80, [9]), take(0, 9), take(0, 9),
                      take(0, 9))
        self.assertEqual(found[4:], [[1, 4, 5, 6, 7, 2, 2, 1, 2, 0], [1, 4, 3, 4, 7, 1, 1, 9, 0], NOTHING])

    def test_to_which_address(self):
        for t in (0, 1, 7, EVERYBODY - 1, EVERYBODY):
            self.assertEqual(last(opens(), bind(0, 0, 80), hear(0, 1), arrives(5, 6, t, 80, []), take(0, 9)),
                             [1, 4, 5, 6, t, 0, 0, 0])

    def test_from_which_address_and_port(self):
        for f, p in ((0, 0), (1, 65535), (EVERYBODY, 1), (0x01020304, 0x0506)):
            self.assertEqual(last(*PLACED, arrives(f, p, 7, 80, []), take(0, 9)), [1, 4, f, p, 7, 0, 0, 0])

    def test_the_first_most_of_its_bytes(self):
        for most, row in ((0, []), (1, [11]), (3, [11, 12, 13]), (4, [11, 12, 13, 14]), (5, [11, 12, 13, 14]),
                          (65535, [11, 12, 13, 14]), (65536, [11, 12, 13, 14])):
            with self.subTest(most=most):
                found = parts(*PLACED, arrives(5, 6, 7, 80, [11, 12, 13, 14]), take(0, most), take(0, 9), told(0))
                self.assertEqual(found[3:], [[1, 4, 5, 6, 7, 4, len(row)] + row + [0], NOTHING,
                                             [0, 6, 7, 80, 0, 0, 0, 0, 0, 0]])

    def test_no_body(self):
        for most in (0, 1, 65536):
            self.assertEqual(last(*PLACED, arrives(5, 6, 7, 80, []), take(0, most)), [1, 4, 5, 6, 7, 0, 0, 0])

    def test_a_long_body(self):
        body = [at % 253 for at in range(65507)]
        for most in (65506, 65507, 65508, 65536):
            row = body[:most]
            self.assertEqual(last(*PLACED, arrives(5, 6, 7, 80, body), take(0, most)),
                             [1, 4, 5, 6, 7, 65507, len(row)] + row + [0])

    def test_an_error_is_ahead_of_what_waits(self):
        found = parts(*PEERED, arrives(5, 6, 7, 80, [1]), fails(3, 4, 7, 80, 5, 6), arrives(5, 6, 7, 80, [2]),
                      take(0, 9), take(0, 9), take(0, 9), take(0, 9))
        self.assertEqual(found[6:], [[2, 2, 3, 4, 0, 0], [1, 4, 5, 6, 7, 1, 1, 1, 0], [1, 4, 5, 6, 7, 1, 1, 2, 0],
                                     NOTHING])

    def test_an_error_leaves_what_waits(self):
        found = parts(*PEERED, arrives(5, 6, 7, 80, [1]), fails(3, 4, 7, 80, 5, 6), take(0, 0), told(0))
        self.assertEqual(found[5:], [[2, 2, 3, 4, 0, 0], [0, 6, 7, 80, 5, 6, 1, 0, 0, 0]])

    def test_an_error_alone_is_gone_then(self):
        for most in (0, 1, 65536):
            found = parts(*PEERED, fails(255, 4294967295, 7, 80, 5, 6), take(0, most), take(0, most))
            self.assertEqual(found[4:], [[2, 2, 255, 4294967295, 0, 0], NOTHING])

    def test_each_socket_its_own(self):
        found = parts(opens(), opens(), bind(0, 7, 80), bind(1, 8, 80), arrives(5, 6, 8, 80, [1]), take(0, 9),
                      take(1, 9))
        self.assertEqual(found[5:], [NOTHING, [1, 4, 5, 6, 8, 1, 1, 1, 0]])

    def test_what_waited_ahead_of_connect_is_still_there_if_it_is_from_the_peer(self):
        found = parts(*PLACED, arrives(3, 4, 7, 80, [1]), arrives(5, 6, 7, 80, [2]), connect(0, 0, 5, 6), take(0, 9),
                      take(0, 9))
        self.assertEqual(found[5:], [[1, 4, 5, 6, 7, 1, 1, 2, 0], NOTHING])


class Refusals(unittest.TestCase):
    def refused(self, row):
        before = (*PEERED, arrives(5, 6, 7, 80, [1]), arrives(5, 6, 7, 80, [2]), opens(), close(1))
        answer = refused(before, row)
        self.assertEqual(len(answer), 1)
        self.assertEqual(refused((*before, fails(3, 4, 7, 80, 5, 6)), row), answer)
        return answer[0]

    def test_most_to_65536(self):
        for most in (65537, 65538, 4294967296, HUGE):
            self.assertEqual(self.refused(take(0, most)), -1)

    def test_no_such_socket(self):
        for k in (-2147483648, -1, 1, 2, 63, 64, 2147483647):
            self.assertEqual(self.refused(take(k, 0)), -2)
            self.assertEqual(self.refused(take(k, 65536)), -2)

    def test_not_as_told_is_ahead_of_no_such_socket(self):
        self.assertEqual(self.refused(take(1, 65537)), -1)
        self.assertEqual(self.refused(take(-1, HUGE)), -1)


if __name__ == "__main__":
    unittest.main()
