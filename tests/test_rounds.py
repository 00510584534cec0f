"""Point 10: parties that come again."""

import unittest

from shoepile.errors import InvalidNumber, InvalidPeriod, PartyError, UnknownGuest
from shoepile.parties import Party, all_lifting
from shoepile.rounds import Repeated
from tests.model import NAMES, happen, mixed_parties

ANN, BOB = ("ann", 0, 5), ("bob", 1, 7)
MOST = 10 ** 18


def slow_lifted(stays, period, rounds):
    """All lifted pairs, of guests with the number of their round, if all rounds happen at one pile."""
    return happen([((name, number), come + number * period, go + number * period)
                   for number in range(rounds) for name, come, go in stays])[0]


def mixed_repeated(many, seed):
    """So many lists of stays with a period, in which guests often stay for several periods."""
    for place, stays in enumerate(mixed_parties(many, range(5), 11, seed)):
        earliest = max([come for _, come, _ in stays], default=0) + 1
        yield stays, earliest + place % 4


class RoundsCase(unittest.TestCase):
    def fails(self, error, call, *arguments, **attributes):
        with self.assertRaises(PartyError) as caught:
            call(*arguments)
        self.assertIs(type(caught.exception), error)
        self.assertEqual(vars(caught.exception), attributes)

    def refuses(self, period, *stays):
        self.fails(InvalidPeriod, Repeated, Party(*stays), period)


class PeriodTest(RoundsCase):
    def test_range(self):
        for period in (0, -1, -10 ** 9, 10 ** 9 + 1, 10 ** 30):
            self.refuses(period)
            self.refuses(period, ANN, BOB)
        self.refuses(True)
        self.assertEqual(Repeated(Party(), 1).total(5), 0)
        self.assertEqual(Repeated(Party(ANN, BOB), 10 ** 9).total(5), 5)

    def test_greater_than_all_ticks_of_coming(self):
        self.refuses(4, ("ann", 0, 5), ("bob", 4, 7))
        self.refuses(4, ("ann", 5, 6), ("bob", 0, 2))
        self.refuses(10 ** 9 - 1, ("ann", 10 ** 9 - 1, 10 ** 9))
        self.assertEqual(Repeated(Party(("ann", 0, 5), ("bob", 4, 7)), 5).lifting("ann"), 1)
        self.assertEqual(Repeated(Party(("ann", 10 ** 9 - 1, 10 ** 9)), 10 ** 9).lifting("ann"), 0)

    def test_twenty_periods_at_most(self):
        self.refuses(3, ("ann", 0, 61))
        self.refuses(3, ("ann", 2, 62), ("bob", 1, 62))
        self.refuses(1, ("ann", 0, 10 ** 9))
        twenty = Repeated(Party(("ann", 0, 60)), 3)
        self.assertEqual((twenty.lifting("ann"), twenty.farthest()), (19, 19))
        late = Repeated(Party(("ann", 2, 62), ("bob", 0, 60)), 3)
        self.assertEqual((late.lifting("ann"), late.lifting("bob"), late.farthest()), (39, 39, 20))

    def test_ten_to_the_ninth_ticks(self):
        repeated = Repeated(Party(("ann", 0, 10 ** 9)), 10 ** 9 // 20)
        self.assertEqual((repeated.lifting("ann"), repeated.total(MOST)), (19, 19 * MOST - 19 * 20 // 2))


class LiftingTest(RoundsCase):
    def test_all_against_a_slow_model_of_all_rounds(self):
        farthest = []
        for stays, period in mixed_repeated(120, 11):
            repeated = Repeated(Party(*stays), period)
            # Enough rounds that the guests of the first one have gone before the last one.
            enough = 14
            for rounds in (0, 1, 2, 3, enough):
                lifted = slow_lifted(stays, period, rounds)
                self.assertEqual(repeated.total(rounds), len(lifted), (stays, period, rounds))
                for name in [stay[0] for stay in stays]:
                    for number in range(rounds):
                        many = len([taker for taker, _ in lifted if taker == (name, number)])
                        self.assertEqual(repeated.lifting_in(name, number, rounds), many)
            apart = [number for (_, first), (_, number) in lifted if first == 0]
            farthest.append(max(apart, default=0))
            self.assertEqual(repeated.farthest(), farthest[-1])
            for name in [stay[0] for stay in stays]:
                endless = len([taker for taker, _ in lifted if taker == (name, 0)])
                self.assertEqual(repeated.lifting(name), endless)
        self.assertGreater(len(set(farthest)), 4)

    def test_against_a_party_of_all_rounds(self):
        stays, period = (ANN, BOB, ("cid", 2, 9), ("dan", 2, 4)), 3
        repeated = Repeated(Party(*stays), period)
        letters = "pqrst"
        for rounds in range(6):
            party = Party()
            for number in range(rounds):
                renamed = [(name + letters[number], come, go) for name, come, go in stays]
                party = party + (Party(*renamed) >> number * period)
            self.assertEqual(repeated.total(rounds), all_lifting(party))
            for number in range(rounds):
                for name, _, _ in stays:
                    self.assertEqual(repeated.lifting_in(name, number, rounds), party(name + letters[number]))

    def test_guests_lift_their_own_pairs_of_later_rounds(self):
        repeated = Repeated(Party(("ann", 1, 8)), 3)
        self.assertEqual((repeated.lifting("ann"), repeated.farthest()), (2, 2))
        self.assertEqual([repeated.total(rounds) for rounds in range(5)], [0, 0, 1, 3, 5])
        self.assertEqual([repeated.lifting_in("ann", number, 4) for number in range(4)], [2, 2, 1, 0])

    def test_one_period_exactly(self):
        # The pair of the next round comes only after the guest has gone.
        repeated = Repeated(Party(("ann", 1, 4)), 3)
        self.assertEqual((repeated.lifting("ann"), repeated.farthest(), repeated.total(MOST)), (0, 0, 0))
        self.assertEqual(Repeated(Party(("ann", 1, 5)), 3).lifting("ann"), 1)

    def test_goings_in_one_tick_of_different_rounds(self):
        # Bob of a round goes when ann of the next one goes, whose pair lies higher.
        repeated = Repeated(Party(("ann", 0, 5), ("bob", 1, 9)), 4)
        self.assertEqual((repeated.lifting("ann"), repeated.lifting("bob")), (2, 2))

    def test_order_of_the_list_within_a_round(self):
        repeated = Repeated(Party(("ann", 2, 4), ("bob", 2, 5)), 7)
        self.assertEqual((repeated.lifting("ann"), repeated.lifting("bob")), (1, 0))
        repeated = Repeated(Party(("bob", 2, 5), ("ann", 2, 4)), 7)
        self.assertEqual((repeated.lifting("ann"), repeated.lifting("bob")), (0, 0))

    def test_nobody_lifts_anything(self):
        for stays in ((), (ANN,), (ANN, ("bob", 2, 3))):
            repeated = Repeated(Party(*stays), 20)
            self.assertEqual((repeated.farthest(), repeated.total(MOST)), (0, 0))

    def test_only_pairs_of_the_same_round(self):
        repeated = Repeated(Party(ANN, BOB), 9)
        self.assertEqual((repeated.farthest(), repeated.lifting("ann"), repeated.total(7)), (0, 1, 7))


class ManyRoundsTest(RoundsCase):
    def setUp(self):
        self.repeated = Repeated(Party(ANN, BOB), 4)

    def test_numbers_of_rounds(self):
        self.assertEqual([self.repeated.total(rounds) for rounds in (0, 1, 2, MOST)], [0, 1, 5, 4 * MOST - 3])
        for rounds in (-1, -MOST, MOST + 1, 10 ** 30):
            self.fails(InvalidNumber, self.repeated.total, rounds)
            self.fails(InvalidNumber, Repeated(Party(), 1).total, rounds)

    def test_lifting_in_a_round(self):
        self.assertEqual([self.repeated.lifting_in("ann", number, 3) for number in range(3)], [2, 2, 1])
        self.assertEqual([self.repeated.lifting_in("bob", number, 3) for number in range(3)], [2, 2, 0])
        self.assertEqual([self.repeated.lifting_in("ann", number, MOST) for number in (0, 1, MOST - 2, MOST - 1)],
                         [2, 2, 2, 1])
        self.assertEqual(self.repeated.lifting_in("bob", 0, 1), 0)

    def test_lifting_in_refuses(self):
        for rounds in (0, -1, MOST + 1):
            self.fails(InvalidNumber, self.repeated.lifting_in, "ann", 0, rounds)
        for number, rounds in ((1, 1), (-1, 1), (3, 3), (-1, 3), (MOST, MOST), (-1, MOST)):
            self.fails(InvalidNumber, self.repeated.lifting_in, "ann", number, rounds)

    def test_unknown_guests(self):
        for name in ("zed", "", "an"):
            self.fails(UnknownGuest, self.repeated.lifting, name, name=name)
            for number, rounds in ((0, 1), (0, 0), (5, 1), (-1, -1)):
                self.fails(UnknownGuest, self.repeated.lifting_in, name, number, rounds, name=name)
        self.fails(UnknownGuest, Repeated(Party(), 1).lifting, "ann", name="ann")

    def test_the_number_of_rounds_goes_before_the_round(self):
        # With no rounds there is no round 0 either, and both raise the same error without an attribute.
        with self.assertRaisesRegex(InvalidNumber, "number of rounds"):
            self.repeated.lifting_in("ann", 0, 0)
        with self.assertRaisesRegex(InvalidNumber, "number of rounds"):
            self.repeated.lifting_in("ann", -1, MOST + 1)
        with self.assertRaisesRegex(InvalidNumber, "no round 7"):
            self.repeated.lifting_in("ann", 7, 7)

    def test_twenty_four_guests_for_twenty_periods(self):
        names = [f"{one}{other}" for one in NAMES for other in "xy"]
        repeated = Repeated(Party(*[(name, place, place + 480) for place, name in enumerate(names)]), 24)
        # All that come within the 480 ticks in which a guest is there, but not in the last of them.
        self.assertEqual([repeated.lifting(name) for name in names], [479] * 24)
        self.assertEqual((repeated.farthest(), repeated.lifting_in(names[0], MOST - 2, MOST)), (20, 47))
        full = sum(min(479, left) for left in range(24 * 30))
        self.assertEqual(repeated.total(30), full)
        self.assertEqual(repeated.total(MOST), full + 24 * 479 * (MOST - 30))

    def test_an_error_changes_nothing(self):
        before = [self.repeated.lifting("ann"), self.repeated.total(9), self.repeated.farthest()]
        self.fails(InvalidNumber, self.repeated.total, -1)
        self.fails(UnknownGuest, self.repeated.lifting, "zed", name="zed")
        self.assertEqual([self.repeated.lifting("ann"), self.repeated.total(9), self.repeated.farthest()], before)
