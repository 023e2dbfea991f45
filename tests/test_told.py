"""Promise 9: told, after each call that changes a socket."""

import unittest

from tests.helper import (EVERYBODY, arrives, begins, bind, close, connect, fails, hear, last, opens, parts, refused,
                          send, take, told)


class Told(unittest.TestCase):
    def after(self, *rows):
        """The six numbers told of socket 0."""
        answer = last(*rows, told(0))
        self.assertEqual(answer[:2], [0, 6])
        self.assertEqual(answer[8:], [0, 0])
        return answer[2:8]

    def test_written_out(self):
        self.assertEqual(last(opens(), bind(0, 7, 80), connect(0, 0, 5, 6), arrives(5, 6, 7, 80, [1]), told(0)),
                         [0, 6, 7, 80, 5, 6, 1, 0, 0, 0])

    def test_opens(self):
        self.assertEqual(self.after(opens()), [0, 0, 0, 0, 0, 0])

    def test_begins_and_close(self):
        self.assertEqual(self.after(opens(), bind(0, 7, 80), begins(0), opens()), [0, 0, 0, 0, 0, 0])
        self.assertEqual(self.after(opens(), bind(0, 7, 80), close(0), opens()), [0, 0, 0, 0, 0, 0])

    def test_bind(self):
        self.assertEqual(self.after(opens(), bind(0, 7, 80)), [7, 80, 0, 0, 0, 0])
        self.assertEqual(self.after(opens(), bind(0, 0, 80)), [0, 80, 0, 0, 0, 0])
        self.assertEqual(self.after(opens(), bind(0, 7, 0)), [7, 49152, 0, 0, 0, 0])
        self.assertEqual(self.after(opens(), bind(0, EVERYBODY - 1, 65535)), [EVERYBODY - 1, 65535, 0, 0, 0, 0])

    def test_connect(self):
        self.assertEqual(self.after(opens(), connect(0, 9, 5, 6)), [9, 49152, 5, 6, 0, 0])
        self.assertEqual(self.after(opens(), connect(0, 0, 5, 6)), [0, 49152, 5, 6, 0, 0])
        self.assertEqual(self.after(opens(), bind(0, 7, 80), connect(0, 9, 5, 6)), [7, 80, 5, 6, 0, 0])
        self.assertEqual(self.after(opens(), bind(0, 0, 80), connect(0, 9, 5, 6)), [9, 80, 5, 6, 0, 0])
        self.assertEqual(self.after(opens(), connect(0, 9, 5, 6), connect(0, 8, 3, 4)), [9, 49152, 3, 4, 0, 0])

    def test_a_peer_let_go(self):
        self.assertEqual(self.after(opens(), connect(0, 9, 5, 6), connect(0, 8, 0, 0)), [9, 49152, 0, 0, 0, 0])
        self.assertEqual(self.after(opens(), connect(0, 9, 0, 0)), [0, 0, 0, 0, 0, 0])

    def test_hear(self):
        self.assertEqual(self.after(opens(), bind(0, 7, 80), hear(0, 1)), [7, 80, 0, 0, 0, 0])

    def test_send(self):
        self.assertEqual(self.after(opens(), send(0, 9, 5, 6, [])), [0, 49152, 0, 0, 0, 0])
        self.assertEqual(self.after(opens(), bind(0, 7, 80), send(0, 9, 5, 6, [])), [7, 80, 0, 0, 0, 0])

    def test_came_and_take(self):
        rows = [opens(), bind(0, 7, 80)]
        for n in range(1, 36):
            rows.append(arrives(5, 6, 7, 80, [n]))
            self.assertEqual(self.after(*rows), [7, 80, 0, 0, min(n, 32), max(n - 32, 0)])
        for n in range(1, 34):
            rows.append(take(0, 0))
            self.assertEqual(self.after(*rows), [7, 80, 0, 0, max(32 - n, 0), 3])

    def test_came_to_everybody(self):
        self.assertEqual(self.after(opens(), bind(0, 7, 80), hear(0, 1), arrives(5, 6, EVERYBODY, 80, [])),
                         [7, 80, 0, 0, 1, 0])
        self.assertEqual(self.after(opens(), bind(0, 7, 80), arrives(5, 6, EVERYBODY, 80, [])), [7, 80, 0, 0, 0, 0])

    def test_problem(self):
        self.assertEqual(self.after(opens(), connect(0, 7, 5, 6), fails(1, 2, 7, 49152, 5, 6)), [7, 49152, 5, 6, 0, 0])

    def test_how_many_were_lost_stays(self):
        full = [opens(), bind(0, 7, 80)] + [arrives(5, 6, 7, 80, []) for n in range(34)]
        self.assertEqual(self.after(*full, connect(0, 0, 3, 4)), [7, 80, 3, 4, 0, 2])
        self.assertEqual(self.after(*full, connect(0, 0, 5, 6)), [7, 80, 5, 6, 32, 2])
        self.assertEqual(self.after(*full, connect(0, 0, 0, 0)), [7, 80, 0, 0, 32, 2])
        self.assertEqual(self.after(*full, close(0), opens()), [0, 0, 0, 0, 0, 0])

    def test_it_changes_nothing(self):
        rows = (opens(), bind(0, 7, 80), connect(0, 0, 5, 6), arrives(5, 6, 7, 80, [1]), fails(3, 4, 7, 80, 5, 6))
        found = parts(*rows, told(0), told(0), take(0, 9), told(0), take(0, 9), told(0))
        self.assertEqual(found[5:], [[0, 6, 7, 80, 5, 6, 1, 0, 0, 0]] * 2 + [
            [2, 2, 3, 4, 0, 0], [0, 6, 7, 80, 5, 6, 1, 0, 0, 0], [1, 4, 5, 6, 7, 1, 1, 1, 0],
            [0, 6, 7, 80, 5, 6, 0, 0, 0, 0]])

    def test_of_each_its_own(self):
        found = parts(opens(), opens(), bind(0, 7, 80), bind(1, 8, 81), connect(1, 0, 5, 6), told(1), told(0))
        self.assertEqual(found[5:], [[0, 6, 8, 81, 5, 6, 0, 0, 0, 0], [0, 6, 7, 80, 0, 0, 0, 0, 0, 0]])

    def test_no_such_socket(self):
        for k in (-2147483648, -1, 1, 63, 64, 2147483647):
            self.assertEqual(refused((opens(), bind(0, 7, 80)), told(k)), [-2])
        self.assertEqual(refused((opens(), close(0)), told(0)), [-2])


if __name__ == "__main__":
    unittest.main()
