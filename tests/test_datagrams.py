"""The words: a datagram in bytes, its total and its sum, and when bytes are a datagram."""

import unittest

from tests.helper import EVERYBODY, arrives, bind, came, datagram, last, opens, parts, send, take, total


def sent(f, p, t, q, body):
    """The bytes of the packet that a socket at f and p sends to t and q."""
    answer = last(opens(), bind(0, f, p), send(0, 0, t, q, body))
    assert answer[:7] == [0, 0, 0, 1, 0, f, t], answer
    assert answer[7] == len(answer) - 8, answer
    return answer[8:]


class Written(unittest.TestCase):
    def test_no_body(self):
        # 1 + 2 + 2 + 8 + 3 + 4 + 8 is 28, and 65507 more is 65535.
        self.assertEqual(sent(1, 3, 2, 4, []), [0, 3, 0, 4, 0, 8, 255, 227])

    def test_a_last_byte_alone_is_a_higher_half(self):
        # 1 + 2 + 2 + 9 + 3 + 4 + 9 + 5 * 256 is 1310.
        self.assertEqual(sent(1, 3, 2, 4, [5]), [0, 3, 0, 4, 0, 9, 250, 225, 5])
        # 1 + 2 + 2 + 11 + 3 + 4 + 11 + 258 + 768 is 1060.
        self.assertEqual(sent(1, 3, 2, 4, [1, 2, 3]), [0, 3, 0, 4, 0, 11, 251, 219, 1, 2, 3])

    def test_the_highest_byte_is_first(self):
        # 258 + 772 + 1286 + 1800 + 2 + 10 + 2314 + 2828 + 10 + 3342 is 12622.
        self.assertEqual(sent(0x01020304, 0x090A, 0x05060708, 0x0B0C, [13, 14]),
                         [9, 10, 11, 12, 0, 10, 0xCE, 0xB1, 13, 14])

    def test_a_long_body_has_its_length_in_two_bytes(self):
        self.assertEqual(sent(1, 3, 2, 4, [0] * 300)[4:6], [1, 52])
        self.assertEqual(sent(1, 3, 2, 4, [0] * 15800)[4:6], [61, 192])
        self.assertEqual(sent(1, 3, 2, 4, [0] * 65507)[4:6], [255, 235])

    def test_a_total_that_is_a_multiple_without_its_sum(self):
        # 1 + 2 + 2 + 10 + 3 + 4 + 10 is 32, and 65503 more is 65535.
        self.assertEqual(sent(1, 3, 2, 4, [255, 223]), [0, 3, 0, 4, 0, 10, 255, 255, 255, 223])
        self.assertEqual(total(1, 2, [0, 3, 0, 4, 0, 10, 0, 0, 255, 223]), 65535)

    def test_the_totals_next_to_a_multiple(self):
        self.assertEqual(sent(1, 3, 2, 4, [255, 222])[6:8], [0, 1])
        self.assertEqual(sent(1, 3, 2, 4, [255, 224])[6:8], [255, 254])

    def test_a_total_of_more_than_one_multiple(self):
        # 1 + 2 + 2 + 12 + 3 + 4 + 12 is 36, and 65535 and 65499 more are two times 65535.
        self.assertEqual(sent(1, 3, 2, 4, [255, 255, 255, 219])[6:8], [255, 255])

    def test_to_everybody(self):
        # 65535 twice leaves the rest as it is: 1 + 2 + 8 + 3 + 4 + 8 is 26.
        self.assertEqual(sent(1, 3, EVERYBODY, 4, [])[6:8], [255, 229])

    def test_the_sum_is_the_least_from_1_on(self):
        for body in ([], [0], [255], [255, 255], [1, 2, 3], list(range(256)), [200] * 999, [255, 223], [0] * 64):
            for f, p, t, q in ((1, 3, 2, 4), (EVERYBODY - 1, 65535, EVERYBODY, 65535), (3232235777, 53, 167772161, 9)):
                row = sent(f, p, t, q, body)
                without = total(f, t, row[:6] + [0, 0] + body)
                least = next(number for number in range(1, 65536) if (without + number) % 65535 == 0)
                self.assertEqual(row[6] * 256 + row[7], least)
                self.assertEqual(row[:6] + row[8:], datagram(f, p, t, q, body)[:6] + body)

    def test_what_is_sent_comes(self):
        for size in (0, 1, 2, 3, 255, 256, 257, 1000, 7001):
            body = [(at * 7 + size) % 256 for at in range(size)]
            row = sent(9, 3, 7, 80, body)
            found = parts(opens(), bind(0, 7, 80), came(9, 7, row), take(0, 65536))
            self.assertEqual(found[2:], [[1, 0, 0, 1, 2, 0], [1, 4, 9, 3, 7, size, size] + body + [0]])


class Bytes(unittest.TestCase):
    """What came at a socket of address 7 and port 80, from address 5 and port 6."""

    def came(self, row, f=5, t=7):
        found = parts(opens(), bind(0, 0, 80), came(f, t, row), take(0, 65536))
        self.assertEqual(found[2], [1, 0, 0, 1, 2, 0] if found[2][0] == 1 else [-3])
        if found[2] == [-3]:
            self.assertEqual(found[3], [0, 0, 0, 0])
            return -3
        self.assertEqual(found[3][:5], [1, 4, f, 6, t])
        self.assertEqual(found[3][5], found[3][6])
        return found[3][7:-1]

    def test_ordinary_ones(self):
        self.assertEqual(self.came(datagram(5, 6, 7, 80, [1, 2, 3, 4])), [1, 2, 3, 4])
        self.assertEqual(self.came(datagram(5, 6, 7, 80, [1, 2, 3])), [1, 2, 3])
        self.assertEqual(self.came(datagram(5, 6, 7, 80, [])), [])

    def test_written_out(self):
        # 5 + 7 + 2 + 9 + 6 + 80 + 9 + 256 is 374, and 65161 more is 65535.
        self.assertEqual(self.came([0, 6, 0, 80, 0, 9, 254, 137, 1]), [1])
        self.assertEqual(self.came([0, 6, 0, 80, 0, 9, 254, 136, 1]), -3)
        self.assertEqual(self.came([0, 6, 0, 80, 0, 9, 254, 138, 1]), -3)

    def test_fewer_than_eight_bytes(self):
        row = datagram(5, 6, 7, 80, [])
        for size in range(8):
            self.assertEqual(self.came(row[:size]), -3)
        self.assertEqual(self.came(row), [])

    def with_length(self, length, behind):
        """A row whose total is right for a length that isn't how many bytes there are."""
        row = [0, 6, 0, 80, length // 256, length % 256, 0, 0] + behind
        rest = total(5, 7, row[:max(length, 8)], length) % 65535
        row[6] = (65535 - rest) // 256
        row[7] = (65535 - rest) % 256
        return row

    def test_a_length_below_8(self):
        for length in range(8):
            self.assertEqual(self.came(self.with_length(length, [])), -3)
            self.assertEqual(self.came(self.with_length(length, [1, 2, 3])), -3)

    def test_a_wrong_length_whatever_the_total_is_of(self):
        """The total is made right, by the address it's from, for each way to count such bytes."""
        for length, there in ((0, 8), (1, 8), (6, 8), (7, 8), (0, 11), (7, 11), (12, 11), (9, 8), (65535, 11), (8, 7),
                              (7, 7), (6, 6), (5, 5)):
            row = ([0, 6, 0, 80, length // 256, length % 256, 1, 1] + [1, 2, 3])[:there]
            for counted in (row, row[:length], row[:8]):
                for how_long in (length, len(counted), there, 8):
                    f = 65535 - total(0, 7, counted, how_long) % 65535
                    self.assertEqual(total(f, 7, counted, how_long) % 65535, 0)
                    self.assertEqual(self.came(row, f=f), -3, (length, there))

    def test_a_length_of_8(self):
        self.assertEqual(self.came(self.with_length(8, [])), [])
        self.assertEqual(self.came(self.with_length(8, [1, 2, 3])), [])

    def test_a_length_of_just_as_many_as_there_are(self):
        self.assertEqual(self.came(self.with_length(11, [1, 2, 3])), [1, 2, 3])

    def test_a_length_of_one_more_than_there_are(self):
        self.assertEqual(self.came(self.with_length(12, [1, 2, 3])), -3)
        self.assertEqual(self.came(self.with_length(9, [])), -3)
        self.assertEqual(self.came(self.with_length(65535, [1, 2, 3])), -3)

    def test_a_length_of_fewer_than_there_are(self):
        self.assertEqual(self.came(self.with_length(10, [1, 2, 3])), [1, 2])
        self.assertEqual(self.came(self.with_length(9, [1, 2, 3, 4])), [1])
        self.assertEqual(self.came(datagram(5, 6, 7, 80, [1, 2]) + [255] * 5000), [1, 2])
        self.assertEqual(self.came(datagram(5, 6, 7, 80, [1, 2]) + [9] * 99990), [1, 2])

    def test_what_is_behind_is_not_in_the_total(self):
        for behind in ([0], [1], [0, 0], [255, 255], [3, 4, 5]):
            row = datagram(5, 6, 7, 80, [1])
            self.assertEqual(self.came(row + behind), [1])
            row[7] ^= 1
            self.assertEqual(self.came(row + behind), -3)

    def test_a_sum_of_0(self):
        # The totals are multiples of 65535 here: 5 + 7 + 2 + 10 + 6 + 80 + 10 + 65415.
        self.assertEqual(total(5, 7, [0, 6, 0, 80, 0, 10, 0, 0, 255, 135]) % 65535, 0)
        self.assertEqual(self.came([0, 6, 0, 80, 0, 10, 0, 0, 255, 135]), -3)
        self.assertEqual(self.came([0, 6, 0, 80, 0, 10, 255, 255, 255, 135]), [255, 135])

    def test_a_sum_of_0_where_the_total_is_wrong_too(self):
        row = datagram(5, 6, 7, 80, [1, 2])
        self.assertEqual(self.came(row[:6] + [0, 0] + row[8:]), -3)

    def test_a_sum_with_one_byte_of_0(self):
        # 5 + 7 + 2 + 10 + 6 + 80 + 10 is 120, and the bodies leave 256 and 1.
        for pair, sum_of_it in ((65535 - 120 - 256, [1, 0]), (65535 - 120 - 1, [0, 1])):
            body = [pair // 256, pair % 256]
            self.assertEqual(datagram(5, 6, 7, 80, body)[6:8], sum_of_it)
            self.assertEqual(self.came(datagram(5, 6, 7, 80, body)), body)

    def test_each_byte_counts(self):
        row = datagram(5, 6, 7, 80, [1, 2, 3])
        for at in range(len(row)):
            wrong = list(row)
            wrong[at] ^= 16
            self.assertEqual(self.came(wrong), -3, at)

    def test_the_addresses_count(self):
        row = datagram(5, 6, 7, 80, [1, 2, 3])
        self.assertEqual(self.came(row, f=6), -3)
        self.assertEqual(self.came(row, t=8), -3)
        self.assertEqual(self.came(row, f=5 + 65536), -3)
        self.assertEqual(self.came(row, t=7 + 65536), -3)
        # As many in all, so the total is the same.
        self.assertEqual(self.came(row, f=7, t=5), [1, 2, 3])
        self.assertEqual(self.came(row, f=5 * 65536), [1, 2, 3])

    def test_the_addresses_are_numbers_of_16_bits_two_by_two(self):
        for f, t in ((0x01020304, 0xF0E0D0C0), (EVERYBODY, 1), (0, 0), (65535, 65536), (EVERYBODY, EVERYBODY - 1)):
            self.assertEqual(self.came(datagram(f, 6, t, 80, [9]), f=f, t=t), [9])

    def test_the_longest_body(self):
        body = [at % 251 for at in range(65507)]
        self.assertEqual(self.came(datagram(5, 6, 7, 80, body)), body)


class Lengths(unittest.TestCase):
    def test_what_is_behind_is_told_back_whole_where_an_error_is_wanted(self):
        row = datagram(5, 6, 7, 80, [1, 2]) + [3, 4, 5]
        self.assertEqual(last(came(5, 7, row)), [0, 0, 0, 1, 1, 5, 7, 13] + row)

    def test_no_error_is_wanted_of_what_is_no_datagram(self):
        row = datagram(5, 6, 7, 80, [1, 2])
        self.assertEqual(last(came(5, 7, row[:9])), [-3])
        self.assertEqual(last(arrives(5, 6, 7, 80, [])), [0, 0, 0, 1, 1, 5, 7, 8] + datagram(5, 6, 7, 80, []))


if __name__ == "__main__":
    unittest.main()
