"""Points 2 and 3: parties and their signs."""

import unittest
from unittest import mock

from shoepile.errors import InvalidStay, UnknownGuest
from shoepile.parties import Party

LAST = 10 ** 9
ANN, BOB, CID = ("ann", 0, 5), ("bob", 1, 7), ("cid", 2, 3)


def guests(many):
    return [(chr(97 + number), number, number + 50) for number in range(many)]


class PartyCase(unittest.TestCase):
    def refuses(self, index, call, *arguments, **more):
        with self.assertRaises(InvalidStay) as caught:
            call(*arguments, **more)
        self.assertEqual(caught.exception.index, index)

    def unknown(self, name, call):
        with self.assertRaises(UnknownGuest) as caught:
            call()
        self.assertEqual(caught.exception.name, name)


class StaysTest(PartyCase):
    def test_stays_and_names(self):
        party = Party(BOB, ANN, CID)
        self.assertEqual(party.stays, (BOB, ANN, CID))
        self.assertEqual(party.names, ("bob", "ann", "cid"))
        self.assertIs(type(party.stays), tuple)
        self.assertIs(type(party.names), tuple)

    def test_no_guests(self):
        self.assertEqual((Party().stays, Party().names), ((), ()))

    def test_properties_cannot_be_assigned(self):
        with self.assertRaises(AttributeError):
            Party(ANN).stays = ()
        with self.assertRaises(AttributeError):
            Party(ANN).names = ()

    def test_most_guests(self):
        self.assertEqual(Party.MAX_GUESTS, 24)
        self.assertEqual(Party(*guests(24)).stays, tuple(guests(24)))

    def test_the_25th_stay_is_refused(self):
        self.refuses(24, Party, *guests(25))
        self.refuses(24, Party, *guests(26))

    def test_an_earlier_fault_goes_before_the_25th_stay(self):
        self.refuses(3, Party, *guests(3), ("d", 4, 4), *guests(26)[4:])

    def test_the_25th_stay_is_refused_even_if_it_repeats_a_name(self):
        self.refuses(24, Party, *guests(24), ("a", 0, 1))

    def test_names_of_one_and_of_eight_letters(self):
        stays = (("a", 0, 1), ("z", 0, 1), ("abcdefgh", 0, 1), ("zzzzzzzz", 0, 1))
        self.assertEqual(Party(*stays).stays, stays)

    def test_wrong_names(self):
        for name in ("", "abcdefghi", "Ann", "ANN", "a1", "1", "a b", " ", "ann ", " ann", "a-b", "a_b",
                     "a\n", "\u00e4", "\u00aa", "\u0430", "`", "{"):
            with self.subTest(name):
                self.refuses(0, Party, (name, 0, 1))
                self.refuses(1, Party, ANN, (name, 0, 1))

    def test_first_and_last_tick(self):
        stays = (("a", 0, LAST), ("b", 0, 1), ("c", LAST - 1, LAST))
        self.assertEqual(Party(*stays).stays, stays)

    def test_wrong_ticks(self):
        for come, go in ((-1, 5), (-5, -1), (0, LAST + 1), (LAST, LAST + 1), (LAST, LAST), (0, 0), (5, 5), (5, 4),
                         (LAST + 1, LAST + 2), (-10 ** 30, 10 ** 30)):
            with self.subTest(come=come, go=go):
                self.refuses(0, Party, ("a", come, go))
                self.refuses(2, Party, ANN, BOB, ("a", come, go))

    def test_a_boolean_is_no_tick(self):
        self.refuses(0, Party, ("a", False, 5))
        self.refuses(0, Party, ("a", 0, True))

    def test_repeated_names(self):
        self.refuses(1, Party, ANN, ANN)
        self.refuses(2, Party, ANN, BOB, ("ann", 7, 9))
        self.refuses(3, Party, ANN, BOB, CID, ("bob", 1, 7), ("ann", 0, 5))

    def test_the_first_wrong_stay_counts(self):
        self.refuses(1, Party, ANN, ("bob", 3, 3), ("Cid", 0, 1), ANN)
        self.refuses(1, Party, ANN, ANN, ("bob", 3, 3))


class EveningTest(PartyCase):
    def test_all_stay_equally_long_in_the_order_of_the_arguments(self):
        self.assertEqual(Party.evening(3, zoe=4, ann=0, bob=4).stays, (("zoe", 4, 7), ("ann", 0, 3), ("bob", 4, 7)))

    def test_length_by_name(self):
        self.assertEqual(Party.evening(length=2, ann=1).stays, (("ann", 1, 3),))

    def test_no_guests(self):
        self.assertEqual(Party.evening(3), Party())

    def test_edges(self):
        self.assertEqual(Party.evening(LAST, ann=0).stays, (("ann", 0, LAST),))
        self.assertEqual(len(Party.evening(5, **{name: come for name, come, _ in guests(24)})), 24)

    def test_wrong_stays(self):
        self.refuses(0, Party.evening, 0, ann=0, bob=1)
        self.refuses(0, Party.evening, -1, ann=4)
        self.refuses(1, Party.evening, 2, ann=0, bob=LAST - 1)
        self.refuses(1, Party.evening, 2, ann=0, bob=-1)
        self.refuses(1, Party.evening, 2, ann=0, Bob=1)
        self.refuses(2, Party.evening, 2, ann=0, bob=1, abcdefghi=1)
        self.refuses(24, Party.evening, 2, **{name: come for name, come, _ in guests(25)})


class SignsTest(PartyCase):
    def setUp(self):
        self.party = Party(ANN, BOB, CID)

    def test_len(self):
        self.assertEqual([len(Party()), len(Party(ANN)), len(self.party), len(Party(*guests(24)))], [0, 1, 3, 24])

    def test_bool(self):
        self.assertIs(bool(Party()), False)
        self.assertIs(bool(Party(ANN)), True)
        self.assertIs(bool(self.party), True)

    def test_in(self):
        self.assertIs("bob" in self.party, True)
        self.assertIs("zed" in self.party, False)
        self.assertIs("bo" in self.party, False)
        self.assertIs("" in self.party, False)
        self.assertIs("ann" in Party(), False)

    def test_item(self):
        self.assertEqual([self.party["ann"], self.party["bob"], self.party["cid"]], [(0, 5), (1, 7), (2, 3)])
        self.assertIs(type(self.party["ann"]), tuple)
        self.unknown("zed", lambda: self.party["zed"])
        self.unknown("an", lambda: self.party["an"])
        self.unknown("ann", lambda: Party()["ann"])

    def test_minus(self):
        self.assertEqual((self.party - "bob").stays, (ANN, CID))
        self.assertEqual((self.party - "ann").stays, (BOB, CID))
        self.assertEqual((Party(ANN) - "ann").stays, ())
        self.unknown("zed", lambda: self.party - "zed")
        self.unknown("ann", lambda: self.party - "ann" - "ann")
        self.unknown("ann", lambda: Party() - "ann")

    def test_plus(self):
        self.assertEqual((Party(BOB) + Party(CID, ANN)).stays, (BOB, CID, ANN))
        self.assertEqual((Party() + self.party).stays, self.party.stays)
        self.assertEqual((self.party + Party()).stays, self.party.stays)
        self.assertEqual(len(Party(*guests(12)) + Party(*guests(24)[12:])), 24)

    def test_plus_refuses(self):
        self.refuses(3, lambda: self.party + self.party)
        self.refuses(2, lambda: Party(ANN) + Party(BOB, ("ann", 8, 9), CID))
        self.refuses(24, lambda: Party(*guests(24)) + Party(("guest", 0, 1)))

    def test_shift(self):
        self.assertEqual((self.party >> 10).stays, (("ann", 10, 15), ("bob", 11, 17), ("cid", 12, 13)))
        self.assertEqual((Party(BOB) >> -1).stays, (("bob", 0, 6),))
        self.assertEqual((self.party >> 0).stays, self.party.stays)
        self.assertEqual((self.party >> LAST - 7).stays[1], ("bob", LAST - 6, LAST))
        self.assertEqual((Party() >> -5).stays, ())

    def test_shift_refuses(self):
        self.refuses(1, lambda: self.party >> LAST - 6)
        self.refuses(0, lambda: self.party >> LAST)
        self.refuses(0, lambda: self.party >> -1)
        self.refuses(1, lambda: Party(BOB, ANN) >> -1)
        self.refuses(0, lambda: self.party >> -10 ** 20)

    def test_equal(self):
        self.assertIs(self.party == Party(ANN, BOB, CID), True)
        self.assertIs(self.party != Party(ANN, BOB, CID), False)
        self.assertIs(Party() == Party(), True)

    def test_different(self):
        for other in (Party(BOB, ANN, CID), Party(ANN, BOB), Party(), Party(ANN, BOB, ("cid", 2, 4)),
                      Party(ANN, BOB, ("dan", 2, 3))):
            self.assertIs(self.party == other, False)
            self.assertIs(self.party != other, True)

    def test_equal_to_nothing_else(self):
        for other in (self.party.stays, list(self.party.stays), self.party.names, 3, None, True, "ann", mock.ANY):
            self.assertIs(self.party == other, False)
        self.assertIs(Party() == (), False)

    def test_cannot_be_iterated_over(self):
        for party in (self.party, Party()):
            for call in (iter, list, tuple, set, sorted, lambda party: [*party], lambda party: list(zip(party))):
                with self.assertRaises(TypeError):
                    call(party)
        with self.assertRaises(TypeError):
            for _ in self.party:
                pass

    def test_parties_never_change(self):
        other = Party(("dan", 0, 1))
        for sign in (lambda: self.party - "bob", lambda: self.party + other, lambda: self.party >> 4,
                     lambda: self.party["bob"], lambda: self.party("ann")):
            sign()
            self.assertEqual(self.party.stays, (ANN, BOB, CID))
            self.assertEqual(other.stays, (("dan", 0, 1),))
        grown = self.party
        grown += other
        self.assertEqual((len(grown), len(self.party)), (4, 3))
