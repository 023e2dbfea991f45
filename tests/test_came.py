"""Promise 6: came, who gets what, and what a queue holds."""

import unittest

from tests.helper import (EVERYBODY, HUGE, arrives, begins, bind, came, close, connect, datagram, fails, hear, last,
                          machine_with, opens, parts, refused, take, told)


def got(*sockets):
    """One answer where this many sockets got it, and each has something now."""
    return [len(sockets), 0, 0, len(sockets)] + [number for k in sockets for number in (2, k)]


def nobody(f, p, t, q, body):
    """Nobody fits: an error is wanted."""
    row = datagram(f, p, t, q, body)
    return [0, 0, 0, 1, 1, f, t, len(row)] + row


class ToOne(unittest.TestCase):
    def test_at_its_address(self):
        self.assertEqual(last(opens(), bind(0, 7, 80), arrives(5, 6, 7, 80, [1])), got(0))

    def test_at_any_address(self):
        for t in (1, 7, EVERYBODY - 1, 0):
            self.assertEqual(last(opens(), bind(0, 0, 80), arrives(5, 6, t, 80, [1])), got(0))

    def test_from_its_peer(self):
        self.assertEqual(last(opens(), bind(0, 7, 80), connect(0, 0, 5, 6), arrives(5, 6, 7, 80, [1])), got(0))

    def test_nobody_fits(self):
        before = (opens(), bind(0, 7, 80), opens(), bind(1, 7, 81), connect(1, 0, 5, 6))
        for f, p, t, q in ((5, 6, 8, 80), (5, 6, 7, 82), (5, 6, 0, 80), (5, 7, 7, 81), (6, 6, 7, 81), (6, 5, 7, 81),
                           (5, 6, 8, 81), (7, 80, 5, 6)):
            with self.subTest(f=f, p=p, t=t, q=q):
                self.assertEqual(last(*before, arrives(f, p, t, q, [1, 2])), nobody(f, p, t, q, [1, 2]))
                self.assertEqual(last(*before, arrives(f, p, t, q, [1, 2]), told(0))[6:8], [0, 0])
                self.assertEqual(last(*before, arrives(f, p, t, q, [1, 2]), told(1))[6:8], [0, 0])

    def test_there_are_no_sockets(self):
        self.assertEqual(last(arrives(5, 6, 7, 80, [])), nobody(5, 6, 7, 80, []))

    def test_written_out(self):
        # 5 + 7 + 2 + 9 + 6 + 80 + 9 + 256 is 374, and 65161 more is 65535.
        row = [0, 6, 0, 80, 0, 9, 254, 137, 1]
        self.assertEqual(last(came(5, 7, row)), [0, 0, 0, 1, 1, 5, 7, 9, 0, 6, 0, 80, 0, 9, 254, 137, 1])
        self.assertEqual(last(opens(), bind(0, 7, 80), came(5, 7, row)), [1, 0, 0, 1, 2, 0])

    def test_one_that_has_no_port_fits_nothing(self):
        self.assertEqual(last(opens(), arrives(5, 6, 7, 80, [])), nobody(5, 6, 7, 80, []))
        self.assertEqual(last(opens(), arrives(5, 6, 7, 0, [])), nobody(5, 6, 7, 0, []))
        self.assertEqual(last(opens(), bind(0, 7, 80), arrives(5, 6, 7, 0, [])), nobody(5, 6, 7, 0, []))

    def test_from_port_0(self):
        self.assertEqual(last(opens(), bind(0, 7, 80), arrives(5, 0, 7, 80, [])), got(0))
        self.assertEqual(last(opens(), bind(0, 7, 80), connect(0, 0, 5, 6), arrives(5, 0, 7, 80, [])),
                         nobody(5, 0, 7, 80, []))

    def test_from_nobody_and_from_everybody(self):
        for f in (0, EVERYBODY):
            for p in (0, 6):
                self.assertEqual(last(opens(), bind(0, 7, 80), arrives(f, p, 7, 80, [])), got(0))
                self.assertEqual(last(opens(), bind(0, 7, 80), arrives(f, p, 7, 80, []), take(0, 9)),
                                 [1, 4, f, p, 7, 0, 0, 0])
                self.assertEqual(last(arrives(f, p, 7, 80, [])), nobody(f, p, 7, 80, []))

    def test_to_nobody(self):
        self.assertEqual(last(opens(), bind(0, 7, 80), arrives(5, 6, 0, 80, [])), nobody(5, 6, 0, 80, []))
        self.assertEqual(last(opens(), bind(0, 0, 80), arrives(5, 6, 0, 80, []), take(0, 9)), [1, 4, 5, 6, 0, 0, 0, 0])

    def test_whether_it_hears_is_not_looked_at(self):
        self.assertEqual(last(opens(), bind(0, 7, 80), hear(0, 1), arrives(5, 6, 7, 80, [])), got(0))

    def test_one_that_was_closed_gets_nothing(self):
        self.assertEqual(last(opens(), bind(0, 7, 80), close(0), arrives(5, 6, 7, 80, [])), nobody(5, 6, 7, 80, []))
        self.assertEqual(last(opens(), bind(0, 7, 80), begins(0), arrives(5, 6, 7, 80, [])), nobody(5, 6, 7, 80, []))

    def test_one_that_was_opened_anew_has_nothing_of_the_one_before(self):
        found = parts(opens(), bind(0, 7, 80), arrives(5, 6, 7, 80, []), close(0), opens(), told(0), take(0, 9))
        self.assertEqual(found[5:], [[0, 6, 0, 0, 0, 0, 0, 0, 0, 0], [0, 0, 0, 0]])


class Better(unittest.TestCase):
    """Several sockets that fit what came from 5 and 6 to 7 and 80."""

    def gets(self, *kinds):
        """Which socket gets it, each one bound to an address and perhaps connected, in this order of numbers."""
        rows = [opens() for kind in kinds]
        # Those with a peer first: one without a peer that's there already would be in their way.
        for k, (address, peer) in sorted(enumerate(kinds), key=lambda pair: not pair[1][1]):
            rows.append(bind(k, address, 80))
            if peer:
                rows.append(connect(k, 0, 5, 6))
        rows += [arrives(5, 6, 7, 80, [1])]
        found = parts(*rows, *[told(k) for k in range(len(kinds))])
        self.assertTrue(all(part[0] >= 0 for part in found), found)
        answer = found[len(rows) - 1]
        self.assertEqual(answer[:5], [1, 0, 0, 1, 2])
        self.assertEqual([part[6] for part in found[len(rows):]], [int(k == answer[5]) for k in range(len(kinds))])
        return answer[5]

    def test_a_peer_against_none(self):
        self.assertEqual(self.gets((7, True), (7, False)), 0)
        self.assertEqual(self.gets((7, False), (7, True)), 1)

    def test_a_peer_against_none_whatever_the_addresses(self):
        self.assertEqual(self.gets((0, True), (7, False)), 0)
        self.assertEqual(self.gets((7, False), (0, True)), 1)
        self.assertEqual(self.gets((0, False), (0, True)), 1)
        self.assertEqual(self.gets((0, False), (7, True)), 1)

    def test_one_with_another_peer_does_not_fit(self):
        found = parts(opens(), opens(), bind(0, 7, 80), connect(0, 0, 5, 7), bind(1, 0, 80), arrives(5, 6, 7, 80, []))
        self.assertEqual(found[5], got(1))

    def test_one_with_another_address_does_not_fit(self):
        found = parts(opens(), opens(), bind(0, 8, 80), connect(0, 0, 5, 6), bind(1, 0, 80), arrives(5, 6, 7, 80, []))
        self.assertEqual(found[5], got(1))

    def by_hand(self, *places):
        """Which socket gets it, where they're put there by hand: by the calls, two such would meet."""
        machine = machine_with(len(places))
        for k, (address, peer) in enumerate(places):
            machine.sockets[k].address = address
            machine.sockets[k].port = 80
            machine.sockets[k].peer = peer
        answer = machine.came(5, 7, datagram(5, 6, 7, 80, [1]))
        self.assertEqual(answer.number, 1)
        waiting = [k for k in range(len(places)) if machine.sockets[k].queue]
        self.assertEqual(answer.wanted, [[2, waiting[0]]])
        self.assertEqual(len(waiting), 1)
        return waiting[0]

    def test_an_address_against_none(self):
        for peer in ((0, 0), (5, 6)):
            self.assertEqual(self.by_hand((0, peer), (7, peer)), 1)
            self.assertEqual(self.by_hand((7, peer), (0, peer)), 0)
            self.assertEqual(self.by_hand((0, peer), (8, peer), (7, peer), (7, peer)), 2)

    def test_of_equal_ones_the_first(self):
        for peer in ((0, 0), (5, 6)):
            for address in (0, 7):
                self.assertEqual(self.by_hand(*[(address, peer)] * 3), 0)

    def test_a_peer_is_ahead_of_an_address(self):
        self.assertEqual(self.by_hand((7, (0, 0)), (0, (5, 6)), (7, (0, 0)), (0, (5, 6))), 1)
        self.assertEqual(self.by_hand((7, (0, 0)), (0, (5, 6)), (7, (5, 6)), (7, (5, 6))), 2)

    def test_the_first_is_that_by_number_not_by_age(self):
        machine = machine_with(2)
        machine.close(0)
        machine.opens()
        for k in (0, 1):
            machine.sockets[k].port = 80
        self.assertEqual(machine.came(5, 7, datagram(5, 6, 7, 80, [])).wanted, [[2, 0]])


class ToEverybody(unittest.TestCase):
    def came(self, *before, q=80):
        return last(*before, arrives(5, 6, EVERYBODY, q, [1]))

    def test_each_that_hears(self):
        before = [opens() for k in range(4)] + [bind(k, 7 + k, 80) for k in range(4)]
        self.assertEqual(self.came(*before), got())
        self.assertEqual(self.came(*before, hear(2, 1)), got(2))
        self.assertEqual(self.came(*before, hear(3, 1), hear(0, 1), hear(2, 1)), got(0, 2, 3))
        self.assertEqual(self.came(*before, hear(3, 1), hear(0, 1), hear(2, 1), hear(2, 0)), got(0, 3))

    def test_no_error_is_wanted_where_nobody_hears(self):
        self.assertEqual(self.came(), [0, 0, 0, 0])
        self.assertEqual(self.came(opens()), [0, 0, 0, 0])
        self.assertEqual(self.came(opens(), bind(0, 0, 80)), [0, 0, 0, 0])

    def test_the_address_is_not_looked_at(self):
        for address in (0, 1, 7, EVERYBODY - 1):
            self.assertEqual(self.came(opens(), bind(0, address, 80), hear(0, 1)), got(0))

    def test_the_port_is_looked_at(self):
        self.assertEqual(self.came(opens(), bind(0, 0, 81), hear(0, 1)), got())
        self.assertEqual(self.came(opens(), hear(0, 1)), got())
        self.assertEqual(self.came(opens(), hear(0, 1), q=0), got())

    def test_the_peer_is_looked_at(self):
        for t, p, answer in ((5, 6, got(0)), (5, 7, got()), (6, 6, got()), (6, 5, got())):
            self.assertEqual(self.came(opens(), bind(0, 7, 80), hear(0, 1), connect(0, 0, t, p)), answer)

    def test_one_with_a_peer_is_not_better(self):
        self.assertEqual(self.came(opens(), opens(), bind(0, 7, 80), connect(0, 0, 5, 6), bind(1, 7, 80), hear(0, 1),
                                   hear(1, 1)), got(0, 1))

    def test_by_numbers_also_where_one_was_opened_anew(self):
        before = [opens() for k in range(3)] + [close(1), opens(), close(0), opens()]
        before += [bind(k, 9 - k, 80) for k in (2, 0, 1)] + [hear(k, 1) for k in (1, 2, 0)]
        self.assertEqual(self.came(*before), got(0, 1, 2))

    def test_all_64(self):
        before = [opens() for k in range(64)] + [bind(k, 1 + k, 80) for k in range(64)]
        before += [hear(k, 1) for k in range(64)]
        self.assertEqual(self.came(*before), got(*range(64)))

    def test_each_has_it_for_itself(self):
        found = parts(opens(), opens(), bind(0, 7, 80), bind(1, 8, 80), hear(0, 1), hear(1, 1),
                      arrives(5, 6, EVERYBODY, 80, [1, 2]), take(0, 1), take(1, 9), take(0, 9), take(1, 9))
        self.assertEqual(found[7:], [[1, 4, 5, 6, EVERYBODY, 2, 1, 1, 0], [1, 4, 5, 6, EVERYBODY, 2, 2, 1, 2, 0],
                                     [0, 0, 0, 0], [0, 0, 0, 0]])

    def test_only_those_that_had_nothing_have_something_now(self):
        before = [opens() for k in range(3)] + [bind(k, 7 + k, 80) for k in range(3)] + [hear(k, 1) for k in range(3)]
        self.assertEqual(self.came(*before, arrives(5, 6, 8, 80, [])), [3, 0, 0, 2, 2, 0, 2, 2])
        self.assertEqual(self.came(*before, connect(0, 0, 5, 6), fails(1, 2, 7, 80, 5, 6)), [3, 0, 0, 2, 2, 1, 2, 2])

    def test_those_that_lose_it_count_too(self):
        before = [opens(), opens(), bind(0, 7, 80), bind(1, 8, 80), hear(0, 1), hear(1, 1)]
        before += [arrives(5, 6, 7, 80, []) for step in range(32)]
        self.assertEqual(self.came(*before), [2, 0, 0, 1, 2, 1])
        self.assertEqual(last(*before, arrives(5, 6, EVERYBODY, 80, []), told(0))[6:8], [32, 1])
        self.assertEqual(last(*before, arrives(5, 6, EVERYBODY, 80, []), told(1))[6:8], [1, 0])

    def test_from_nobody_and_from_everybody(self):
        for f in (0, EVERYBODY):
            found = parts(opens(), bind(0, 7, 80), hear(0, 1), arrives(f, 0, EVERYBODY, 80, []), take(0, 0))
            self.assertEqual(found[3:], [got(0), [1, 4, f, 0, EVERYBODY, 0, 0, 0]])

    def test_one_address_below_is_no_everybody(self):
        self.assertEqual(last(opens(), bind(0, 7, 80), hear(0, 1), arrives(5, 6, EVERYBODY - 1, 80, [])),
                         nobody(5, 6, EVERYBODY - 1, 80, []))


class Queue(unittest.TestCase):
    def waiting(self, sizes):
        """How many wait and were lost, once bodies of these sizes came; each answers 1."""
        rows = [opens(), bind(0, 7, 80)] + [arrives(5, 6, 7, 80, [1] * size) for size in sizes] + [told(0)]
        found = parts(*rows)
        self.assertEqual(found[2], got(0))
        self.assertEqual(found[3:-1], [[1, 0, 0, 0]] * (len(sizes) - 1))
        return found[-1][6:8]

    def test_in_order(self):
        found = parts(opens(), bind(0, 7, 80), *[arrives(5, n, 7, 80, [n]) for n in range(5)],
                      *[take(0, 1) for n in range(5)])
        self.assertEqual(found[7:], [[1, 4, 5, n, 7, 1, 1, n, 0] for n in range(5)])

    def test_31_and_32_and_more(self):
        self.assertEqual(self.waiting([0] * 31), [31, 0])
        self.assertEqual(self.waiting([0] * 32), [32, 0])
        self.assertEqual(self.waiting([0] * 33), [32, 1])
        self.assertEqual(self.waiting([0] * 40), [32, 8])

    def test_it_weighs_131072_at_the_most(self):
        self.assertEqual(self.waiting([65472, 65472]), [2, 0])
        self.assertEqual(self.waiting([65472, 65473]), [1, 1])
        self.assertEqual(self.waiting([65507, 65437]), [2, 0])
        self.assertEqual(self.waiting([65507, 65438]), [1, 1])
        self.assertEqual(self.waiting([65507, 65507]), [1, 1])

    def test_each_weighs_64_besides_its_body(self):
        self.assertEqual(self.waiting([65472, 65408, 0]), [3, 0])
        self.assertEqual(self.waiting([65472, 65408, 1]), [2, 1])
        self.assertEqual(self.waiting([65472, 65409, 0]), [2, 1])
        self.assertEqual(self.waiting([65472, 65472, 0]), [2, 1])
        self.assertEqual(self.waiting([4032] * 32 + [0]), [32, 1])
        self.assertEqual(self.waiting([4032] * 31 + [4033]), [31, 1])

    def test_a_smaller_one_may_find_room_behind_one_that_is_lost(self):
        self.assertEqual(self.waiting([65472, 65473, 65472]), [2, 1])

    def test_what_is_behind_the_length_weighs_nothing(self):
        row = datagram(5, 6, 7, 80, [1] * 65472) + [1] * 1000
        self.assertEqual(last(opens(), bind(0, 7, 80), came(5, 7, row), came(5, 7, row), told(0))[6:8], [2, 0])

    def test_what_is_lost_is_not_taken(self):
        rows = [opens(), bind(0, 7, 80)] + [arrives(5, 6, 7, 80, [n]) for n in range(34)]
        found = parts(*rows, *[take(0, 1) for n in range(33)], told(0))
        self.assertEqual([part[7] for part in found[36:68]], list(range(32)))
        self.assertEqual(found[68:], [[0, 0, 0, 0], [0, 6, 7, 80, 0, 0, 0, 2, 0, 0]])

    def test_there_is_room_again_once_one_is_taken(self):
        rows = [opens(), bind(0, 7, 80)] + [arrives(5, 6, 7, 80, [n]) for n in range(33)]
        found = parts(*rows, take(0, 0), arrives(5, 6, 7, 80, [99]), told(0), *[take(0, 1) for n in range(32)])
        self.assertEqual(found[36], [1, 0, 0, 0])
        self.assertEqual(found[37][6:8], [32, 1])
        self.assertEqual([part[7] for part in found[38:]], list(range(1, 32)) + [99])

    def test_its_whole_weight_is_gone_though_few_bytes_were_taken(self):
        big = arrives(5, 6, 7, 80, [1] * 65472)
        self.assertEqual(last(opens(), bind(0, 7, 80), big, big, take(0, 0), big, told(0))[6:8], [2, 0])

    def test_an_error_weighs_nothing(self):
        rows = [opens(), bind(0, 7, 80), connect(0, 0, 5, 6), fails(1, 2, 7, 80, 5, 6)]
        rows += [arrives(5, 6, 7, 80, []) for n in range(32)] + [told(0)]
        self.assertEqual(last(*rows)[6:8], [32, 0])

    def test_sockets_have_queues_of_their_own(self):
        rows = [opens(), opens(), bind(0, 7, 80), bind(1, 8, 80)] + [arrives(5, 6, 7, 80, []) for n in range(33)]
        found = parts(*rows, arrives(5, 6, 8, 80, []), told(0), told(1))
        self.assertEqual(found[37:], [got(1), [0, 6, 7, 80, 0, 0, 32, 1, 0, 0], [0, 6, 8, 80, 0, 0, 1, 0, 0, 0]])

    def test_a_full_one_is_not_passed_by(self):
        rows = [opens(), opens(), bind(0, 7, 80), connect(0, 0, 5, 6), bind(1, 7, 80)]
        rows += [arrives(5, 6, 7, 80, []) for n in range(33)]
        found = parts(*rows, told(0), told(1))
        self.assertEqual(found[-3:], [[1, 0, 0, 0], [0, 6, 7, 80, 5, 6, 32, 1, 0, 0], [0, 6, 7, 80, 0, 0, 0, 0, 0, 0]])


class SomethingNow(unittest.TestCase):
    def test_where_it_is_the_first_there(self):
        found = parts(opens(), bind(0, 7, 80), arrives(5, 6, 7, 80, []), arrives(5, 6, 7, 80, []), take(0, 0),
                      arrives(5, 6, 7, 80, []), take(0, 0), take(0, 0), arrives(5, 6, 7, 80, []))
        self.assertEqual([found[at] for at in (2, 3, 5, 8)], [got(0), [1, 0, 0, 0], [1, 0, 0, 0], got(0)])

    def test_not_where_there_is_an_error(self):
        before = (opens(), bind(0, 7, 80), connect(0, 0, 5, 6), fails(1, 2, 7, 80, 5, 6))
        self.assertEqual(last(*before, arrives(5, 6, 7, 80, [])), [1, 0, 0, 0])
        self.assertEqual(last(*before, take(0, 0), arrives(5, 6, 7, 80, [])), got(0))

    def test_again_once_what_waited_is_dropped(self):
        self.assertEqual(last(opens(), bind(0, 7, 80), arrives(3, 3, 7, 80, []), connect(0, 0, 5, 6),
                              arrives(5, 6, 7, 80, [])), got(0))

    def test_which_socket(self):
        self.assertEqual(last(*[opens() for k in range(64)], bind(63, 7, 80), arrives(5, 6, 7, 80, [])), got(63))


class Refusals(unittest.TestCase):
    def refused(self, row):
        before = (opens(), opens(), bind(0, 0, 80), hear(0, 1), arrives(5, 6, 7, 80, [1]))
        answer = refused(before, row)
        self.assertEqual(len(answer), 1)
        return answer[0]

    def test_numbers_not_as_told(self):
        row = datagram(5, 6, 7, 80, [1])
        for f, t in ((EVERYBODY + 1, 7), (HUGE, 7), (5, EVERYBODY + 1), (5, HUGE), (HUGE, HUGE), (5 + 2 ** 32, 7),
                     (5, 7 + 2 ** 32)):
            self.assertEqual(self.refused(came(f, t, row)), -1)

    def test_they_are_no_datagram(self):
        row = datagram(5, 6, 7, 80, [1])
        for wrong in ([], row[:7], row[:8], row[:6] + [0, 0, 1], row[:8] + [2], row[:5] + [7] + row[6:]):
            self.assertEqual(self.refused(came(5, 7, wrong)), -3)
            self.assertEqual(self.refused(came(5, EVERYBODY, wrong)), -3)

    def test_no_datagram_where_nobody_fits(self):
        self.assertEqual(last(came(5, 7, [])), [-3])
        self.assertEqual(last(came(5, EVERYBODY, [1] * 20)), [-3])

    def test_not_as_told_is_ahead_of_no_datagram(self):
        self.assertEqual(self.refused(came(EVERYBODY + 1, 7, [])), -1)
        self.assertEqual(self.refused(came(5, HUGE, [1, 2, 3])), -1)


if __name__ == "__main__":
    unittest.main()
