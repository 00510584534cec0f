"""Points 6 and 7: several piles."""

import itertools
import unittest

from shoepile.errors import InvalidRing, TooManyGuests
from shoepile.parties import Party
from shoepile.piles import fewest_piles, judge_ring, odd_ring, quiet_count, quiet_guests, two_piles
from tests.model import all_parties, is_quiet, mixed_parties, ring_stays, works

ANN, BOB, CID = ("ann", 0, 5), ("bob", 1, 7), ("cid", 2, 3)


def small_parties():
    yield ()
    yield from all_parties(1, 2)
    yield from all_parties(2, 3)
    yield from all_parties(3, 3)
    yield from mixed_parties(150, range(4, 8), 9, 3)
    yield from mixed_parties(60, range(5, 8), 20, 4)


def all_cross(many, start=0):
    """Stays of which each two cross."""
    return tuple((chr(97 + number), start + number, start + number + many) for number in range(many))


class TwoPilesTest(unittest.TestCase):
    def test_enough_just_if_some_choice_works(self):
        for stays in small_parties():
            choices = itertools.product((0, 1), repeat=len(stays))
            found = two_piles(Party(*stays))
            self.assertEqual(found is not None, any(works(stays, choice) for choice in choices), stays)
            if found is not None:
                self.assertEqual(list(found), [stay[0] for stay in stays])
                self.assertTrue(works(stays, list(found.values())), stays)

    def test_first_of_those_who_are_connected_uses_pile_0(self):
        party = Party(("e", 21, 25), ("b", 1, 6), ("a", 0, 5), ("d", 20, 24), ("c", 2, 3), ("f", 24, 26))
        self.assertEqual(list(two_piles(party).items()),
                         [("e", 0), ("b", 0), ("a", 1), ("d", 1), ("c", 0), ("f", 1)])

    def test_guests_who_come_or_go_together(self):
        self.assertEqual(two_piles(Party(("a", 0, 3), ("b", 0, 5))), {"a": 0, "b": 1})
        self.assertEqual(two_piles(Party(("b", 0, 5), ("a", 0, 3))), {"b": 0, "a": 0})
        self.assertEqual(two_piles(Party(("a", 0, 5), ("b", 1, 5))), {"a": 0, "b": 0})
        self.assertEqual(two_piles(Party(("a", 0, 5), ("b", 5, 6))), {"a": 0, "b": 0})

    def test_edges(self):
        self.assertEqual(two_piles(Party()), {})
        self.assertEqual(two_piles(Party(ANN)), {"ann": 0})
        self.assertIsNone(two_piles(Party(*ring_stays("abcde"))))
        self.assertEqual(two_piles(Party(*ring_stays("abcd"))), {"a": 0, "b": 1, "c": 0, "d": 1})


class OddRingTest(unittest.TestCase):
    def check_ring(self, stays, length):
        party = Party(*stays)
        ring = odd_ring(party)
        self.assertIs(type(ring), list)
        self.assertEqual(len(ring), length, stays)
        self.assertEqual(judge_ring(party, ring), 3)

    def test_a_ring_just_if_two_piles_are_not_enough(self):
        for stays in small_parties():
            party = Party(*stays)
            self.assertEqual(odd_ring(party) is None, two_piles(party) is not None, stays)

    def test_no_shorter_list_is_a_ring(self):
        for stays in small_parties():
            pairs = set(Party(*stays).crossings())
            pairs |= {(other, one) for one, other in pairs}
            lengths = [size for size in range(3, len(stays) + 1, 2)
                       for names in itertools.permutations([stay[0] for stay in stays], size)
                       if names[0] == min(names) and all(pair in pairs for pair in zip(names, names[1:] + names[:1]))]
            if lengths:
                self.check_ring(stays, min(lengths))
            else:
                self.assertIsNone(odd_ring(Party(*stays)))

    def test_a_shortest_ring_among_longer_ones(self):
        nine, five, seven = ring_stays("abcdefghi"), ring_stays("jklmn", 40), ring_stays("opqrstu", 80)
        self.check_ring(nine, 9)
        for order in itertools.permutations((nine, five, seven)):
            self.check_ring(sum(order, ()), 5)
        three = (("x", 200, 204), ("y", 201, 205), ("z", 202, 206))
        self.check_ring(nine + five + seven + three, 3)
        self.check_ring(three + nine + seven + five, 3)

    def test_a_chord_makes_a_longer_ring_shorter(self):
        stays = list(ring_stays("abcdefg"))
        stays.insert(3, ("x", 5, 8))
        self.check_ring(stays, 3)

    def test_even_rings_are_not_enough(self):
        self.assertIsNone(odd_ring(Party(*ring_stays("abcd"), *ring_stays("efghij", 50))))

    def test_edges(self):
        self.assertIsNone(odd_ring(Party()))
        self.assertIsNone(odd_ring(Party(ANN)))
        self.assertIsNone(odd_ring(Party(ANN, BOB)))


class JudgeRingTest(unittest.TestCase):
    def refuses(self, index, stays, names):
        with self.assertRaises(InvalidRing) as caught:
            judge_ring(Party(*stays), names)
        self.assertEqual(caught.exception.index, index)

    def test_rings(self):
        self.assertEqual(judge_ring(Party(ANN, BOB), ["ann", "bob"]), 2)
        self.assertEqual(judge_ring(Party(ANN, BOB), ["bob", "ann"]), 2)
        for many in range(4, 12):
            names = list("abcdefghijkl"[:many])
            party = Party(*ring_stays(names))
            self.assertEqual(judge_ring(party, names), 2 + many % 2)
            self.assertEqual(judge_ring(party, names[::-1]), 2 + many % 2)
            self.assertEqual(judge_ring(party, names[3:] + names[:3]), 2 + many % 2)

    def test_part_of_the_guests(self):
        party = Party(*all_cross(6))
        self.assertEqual([judge_ring(party, list(names)) for names in ("fa", "bdf", "acfb", "fdbac", "abcdef")],
                         [2, 3, 2, 3, 2])

    def test_no_guest(self):
        self.refuses(0, (ANN, BOB), ["zed", "bob"])
        self.refuses(1, (ANN, BOB), ["ann", "zed"])
        self.refuses(2, (ANN, BOB), ["ann", "bob", "zed"])
        self.refuses(0, (), ["ann"])

    def test_repeated(self):
        self.refuses(1, (ANN, BOB), ["ann", "ann"])
        self.refuses(2, (ANN, BOB), ["ann", "bob", "ann"])
        self.refuses(3, all_cross(5), ["a", "b", "c", "b", "d"])

    def test_does_not_cross_the_one_before(self):
        self.refuses(1, (ANN, BOB, CID), ["ann", "cid"])
        self.refuses(1, (ANN, BOB, CID), ["cid", "ann", "zed"])
        self.refuses(2, (ANN, BOB, CID), ["ann", "bob", "cid"])
        self.refuses(2, ring_stays("abcdef"), ["a", "b", "d", "zed"])

    def test_the_first_wrong_item_counts(self):
        self.refuses(1, (ANN, BOB, CID), ["ann", "zed", "ann", "cid"])
        self.refuses(2, all_cross(4), ["a", "b", "a", "zed"])

    def test_no_ring_at_its_end(self):
        self.refuses(0, (ANN, BOB), [])
        self.refuses(0, (), [])
        self.refuses(1, (ANN, BOB), ["ann"])
        self.refuses(3, ring_stays("abcdef"), ["a", "b", "c"])
        self.refuses(5, ring_stays("abcdef"), ["b", "c", "d", "e", "f"])


class FewestPilesTest(unittest.TestCase):
    def test_first_list_with_the_fewest_piles(self):
        for stays in small_parties():
            expected = []
            for count in range(1, len(stays) + 1):
                choices = itertools.product(range(count), repeat=len(stays))
                expected = next((list(choice) for choice in choices if works(stays, choice)), None)
                if expected is not None:
                    break
            self.assertEqual(fewest_piles(Party(*stays)), expected, stays)

    def test_the_first_pile_that_is_free_may_be_wrong(self):
        # Taking the first free pile for each guest in turn would need a third one here.
        stays = (("a", 0, 3), ("b", 6, 9), ("c", 2, 5), ("d", 4, 7))
        self.assertEqual(fewest_piles(Party(*stays)), [0, 1, 1, 0])

    def test_edges(self):
        self.assertEqual(fewest_piles(Party()), [])
        self.assertEqual(fewest_piles(Party(ANN)), [0])

    def test_ten_guests(self):
        self.assertEqual(fewest_piles(Party(*all_cross(10))), list(range(10)))
        self.assertEqual(fewest_piles(Party(*ring_stays("abcdefghij"))), [0, 1] * 5)
        self.assertEqual(fewest_piles(Party(*ring_stays("abcdefghi"), ("z", 90, 99))), [0, 1] * 4 + [2, 0])

    def test_too_many_guests(self):
        for many in (11, 12, 24):
            with self.assertRaises(TooManyGuests):
                fewest_piles(Party(*all_cross(many)))
            with self.assertRaises(TooManyGuests):
                fewest_piles(Party.evening(1, **{chr(97 + number): 2 * number for number in range(many)}))


class QuietGuestsTest(unittest.TestCase):
    def test_first_greatest_list(self):
        for stays in small_parties():
            for size in range(len(stays), -1, -1):
                lists = [chosen for chosen in itertools.combinations(stays, size) if is_quiet(chosen)]
                if lists:
                    break
            # Combinations come in the order of the party, so the first list is the one to take.
            self.assertEqual(quiet_guests(Party(*stays)), [stay[0] for stay in lists[0]], stays)
            self.assertEqual(quiet_count(stays), size, stays)

    def test_the_first_of_several_greatest_lists(self):
        pairs = [(f"{letter}{side}", 10 * number + place, 10 * number + place + 2)
                 for number, letter in enumerate("abc") for place, side in enumerate("xy")]
        self.assertEqual(quiet_guests(Party(*pairs)), ["ax", "bx", "cx"])
        self.assertEqual(quiet_guests(Party(*pairs[::-1])), ["cy", "by", "ay"])
        self.assertEqual(quiet_guests(Party(*all_cross(8))), ["a"])

    def test_the_first_guest_may_be_missing(self):
        stays = (("wide", 2, 9), ("a", 0, 3), ("b", 4, 10), ("c", 5, 6))
        self.assertEqual(quiet_guests(Party(*stays)), ["a", "b", "c"])
        self.assertEqual(quiet_count(stays), 3)

    def test_edges(self):
        self.assertEqual((quiet_guests(Party()), quiet_count(())), ([], 0))
        self.assertEqual((quiet_guests(Party(ANN)), quiet_count((ANN,))), (["ann"], 1))

    def test_no_error_for_somewhat_more_stays_than_a_party_has(self):
        self.assertEqual(quiet_count(tuple((f"a{chr(97 + k)}", k, k + 26) for k in range(26))), 1)
        self.assertEqual(quiet_count(tuple((f"a{chr(97 + k)}", k, 99 - k) for k in range(26))), 26)
