"""Points 8 and 9: goings that nobody saw."""

import itertools
import math
import random
import unittest

from shoepile.errors import (Contradiction, InvalidGoings, InvalidNumber, InvalidStay, PartyError, TooManyGuests,
                             UnknownGuest)
from shoepile.goings import GoingObserver
from shoepile.parties import Party
from tests.model import NAMES, happen

LAST = 10 ** 9
COMINGS = (("ann", 0), ("bob", 1), ("cid", 2))
GOINGS = (3, 5, 7)
TEN = tuple((name, place) for place, name in enumerate(NAMES[:10]))
TEN_GOINGS = tuple(range(10, 20))


def slow_ways(comings, goings):
    """All orders of going, each with the numbers of lifted pairs, found by trying all."""
    found = []
    for way in itertools.permutations([name for name, _ in comings]):
        going = dict(zip(way, goings))
        stays = [(name, come, going[name]) for name, come in comings]
        if all(come < go for _, come, go in stays):
            takers = [taker for taker, _ in happen(stays)[0]]
            found.append((way, [takers.count(name) for name in way]))
    return found


def agreeing(ways, records):
    """Those of the ways that agree with the records."""
    return [(way, lifts) for way, lifts in ways
            if all(seen == (way[index] if kind == "guest" else lifts[index]) for kind, index, seen in records)]


def mixed_observers(many, sizes, seed):
    """So many comings and goings that always are the same, of which some can be and some cannot."""
    source = random.Random(seed)
    for _ in range(many):
        size = source.choice(sizes)
        last = source.choice((size + 1, 2 * size + 2))
        comings = tuple((name, source.randrange(last)) for name in source.sample(NAMES, size))
        yield comings, tuple(sorted(source.sample(range(1, last + 4), size)))


def state(observer):
    """All that an observer tells."""
    many = len(observer._goings)
    party = observer.find_party()
    return [observer.records, observer.way_count(), [observer.possible_guests(index) for index in range(many)],
            party and party.stays]


class ObserverCase(unittest.TestCase):
    def refuses(self, error, comings, goings, **attributes):
        with self.assertRaises(PartyError) as caught:
            GoingObserver(comings, goings)
        self.assertIs(type(caught.exception), error)
        self.assertEqual(vars(caught.exception), attributes)

    def refuses_stay(self, index, comings, goings=()):
        self.refuses(InvalidStay, comings, goings, index=index)

    def refuses_going(self, index, comings, goings):
        self.refuses(InvalidGoings, comings, goings, index=index)


class ComingsTest(ObserverCase):
    def test_most_guests(self):
        self.assertEqual(GoingObserver(TEN, TEN_GOINGS).way_count(), math.factorial(10))
        for many in (11, 12):
            comings = tuple((name, 0) for name in NAMES[:many])
            self.refuses(TooManyGuests, comings, tuple(range(1, many + 1)))

    def test_too_many_guests_go_before_all_else(self):
        self.refuses(TooManyGuests, (("Ann", -1), *TEN), TEN_GOINGS)
        self.refuses(TooManyGuests, (*TEN, ("Ann", -1)), ())
        self.refuses(TooManyGuests, (*TEN, TEN[0]), (5, 3))

    def test_names(self):
        for name in ("", "abcdefghi", "Ann", "a1", "a b", "ann ", "a\n", "\u00e4", "`", "{"):
            with self.subTest(name):
                self.refuses_stay(0, ((name, 0),), (1,))
                self.refuses_stay(3, (*COMINGS, (name, 0)), (3, 5, 7, 9))
        comings = (("a", 0), ("abcdefgh", 0), ("zzzzzzzz", 0))
        self.assertEqual(GoingObserver(comings, GOINGS).possible_guests(0), ["a", "abcdefgh", "zzzzzzzz"])

    def test_repeated_names(self):
        self.refuses_stay(1, (("ann", 0), ("ann", 0)), (1, 2))
        self.refuses_stay(3, (*COMINGS, ("bob", 9)), (3, 5, 7, 10))

    def test_ticks(self):
        self.refuses_stay(0, (("ann", -1),), (1,))
        self.refuses_stay(1, (("ann", 0), ("bob", -10 ** 30)), (1, 2))
        self.refuses_stay(0, (("ann", LAST),), (LAST,))
        self.refuses_stay(1, (("ann", 0), ("bob", LAST)), (1, LAST))
        self.refuses_stay(0, (("ann", LAST + 1),), (LAST + 2,))
        self.refuses_stay(0, (("ann", False),), (1,))
        self.assertEqual(GoingObserver((("ann", LAST - 1),), (LAST,)).find_party().stays, (("ann", LAST - 1, LAST),))
        self.assertEqual(GoingObserver((("ann", 0),), (1,)).find_party().stays, (("ann", 0, 1),))

    def test_the_first_wrong_coming_counts_ahead_of_goings(self):
        self.refuses_stay(1, (("ann", 0), ("bob", -1), ("ann", 0), ("", 0)), (3, 2, 1))
        self.refuses_stay(2, (("ann", 0), ("bob", 1), ("ann", 0), ("", 0)), ())


class GoingsTest(ObserverCase):
    def test_ascending_and_different(self):
        self.refuses_going(1, COMINGS, (5, 4, 7))
        self.refuses_going(1, COMINGS, (5, 5, 7))
        self.refuses_going(2, COMINGS, (5, 7, 7))
        self.refuses_going(2, COMINGS, (5, 7, 6))
        self.refuses_going(1, COMINGS, (7, 5, 3))

    def test_range(self):
        self.refuses_going(0, (("ann", 0),), (LAST + 1,))
        self.refuses_going(2, COMINGS, (3, LAST, LAST + 1))
        self.refuses_going(0, (("ann", 0),), (0,))
        self.refuses_going(0, (("ann", 0),), (-1,))
        self.refuses_going(0, COMINGS, (-5, -4, -3))
        self.refuses_going(0, (("ann", 0),), (True,))

    def test_not_enough_guests_have_come(self):
        self.refuses_going(0, (("ann", 4), ("bob", 0)), (0, 5))
        self.refuses_going(1, (("ann", 4), ("bob", 0)), (1, 3))
        self.refuses_going(2, (("ann", 1), ("bob", 0), ("cid", 9)), (2, 4, 8))
        self.refuses_going(1, (("ann", 1), ("bob", 6), ("cid", 6)), (2, 4, 8))

    def test_not_in_the_tick_of_coming(self):
        self.refuses_going(0, (("ann", 4),), (4,))
        self.refuses_going(1, (("ann", 0), ("bob", 3)), (2, 3))
        self.refuses_going(2, COMINGS[:2] + (("cid", 7),), (3, 5, 7))
        self.assertEqual(GoingObserver((("ann", 0), ("bob", 3)), (2, 4)).way_count(), 1)
        self.assertEqual(GoingObserver((("ann", 0), ("bob", 3)), (3, 4)).find_party().stays,
                         (("ann", 0, 3), ("bob", 3, 4)))

    def test_fewer_goings(self):
        self.refuses_going(2, COMINGS, (3, 5))
        self.refuses_going(1, COMINGS, (3,))
        self.refuses_going(0, COMINGS, ())
        self.refuses_going(9, TEN, TEN_GOINGS[:9])

    def test_more_goings(self):
        self.refuses_going(3, COMINGS, (3, 5, 7, 9))
        self.refuses_going(3, COMINGS, (3, 5, 7, 9, 8))
        self.refuses_going(0, (), (3,))
        self.refuses_going(10, TEN, (*TEN_GOINGS, 50))

    def test_each_going_counts_ahead_of_their_number(self):
        self.refuses_going(1, COMINGS, (3, 3))
        self.refuses_going(0, COMINGS, (0,))
        self.refuses_going(1, COMINGS, (3, 2, 1, 0))
        self.refuses_going(2, COMINGS, (3, 5, LAST + 1, LAST + 2))

    def test_refused_just_if_no_way_exists(self):
        for comings, goings in mixed_observers(150, range(1, 6), 5):
            ways = slow_ways(comings, goings)
            if ways:
                self.assertEqual(GoingObserver(comings, goings).way_count(), len(ways), (comings, goings))
            else:
                short = next(index for index, tick in enumerate(goings)
                             if len([come for _, come in comings if come < tick]) <= index)
                self.refuses_going(short, comings, goings)


class SeeingTest(ObserverCase):
    def fails(self, error, call, *arguments, **attributes):
        with self.assertRaises(PartyError) as caught:
            call(*arguments)
        self.assertIs(type(caught.exception), error)
        self.assertEqual(vars(caught.exception), attributes)

    def agrees(self, observer, comings, goings, records, ways):
        self.assertEqual(observer.way_count(), len(ways))
        self.assertEqual(observer.records, records)
        for index in range(len(goings)):
            self.assertEqual(observer.possible_guests(index), sorted({way[index] for way, _ in ways}))
        party = None
        if len(ways) == 1:
            going = dict(zip(ways[0][0], goings))
            party = Party(*[(name, come, going[name]) for name, come in comings])
        self.assertEqual(observer.find_party(), party)

    def test_no_guests(self):
        observer = GoingObserver((), ())
        self.assertEqual([observer.records, observer.way_count(), observer.find_party()], [[], 1, Party()])
        self.fails(InvalidNumber, observer.possible_guests, 0)
        self.fails(InvalidNumber, observer.see_lift, 0, 0)
        self.fails(InvalidNumber, observer.see_guest, 0, "ann")

    def test_all_single_observations_against_a_slow_search(self):
        for comings, goings in mixed_observers(60, (3, 4, 5), 6):
            ways = slow_ways(comings, goings)
            if not ways:
                continue
            for index in range(len(goings)):
                for kind, told in [*[("guest", name) for name, _ in comings],
                                   *[("lift", count) for count in range(-1, len(comings) + 1)]]:
                    observer = GoingObserver(comings, goings)
                    many = len(agreeing(ways, [(kind, index, told)]))
                    see = observer.see_guest if kind == "guest" else observer.see_lift
                    if many:
                        self.assertEqual(see(index, told), many)
                    else:
                        self.fails(Contradiction, see, index, told)

    def test_observations_one_after_another_against_a_slow_search(self):
        source = random.Random(7)
        accepted = refused = found = 0
        for comings, goings in mixed_observers(150, (4, 5, 6, 6), 8):
            ways = slow_ways(comings, goings)
            if not ways:
                continue
            observer, records = GoingObserver(comings, goings), []
            self.agrees(observer, comings, goings, records, ways)
            open_before = len(ways) > 1
            for _ in range(7):
                index = source.randrange(len(goings))
                kind, told = source.choice([("guest", source.choice(comings)[0]), ("lift", source.randrange(3))])
                see = observer.see_guest if kind == "guest" else observer.see_lift
                remaining = agreeing(ways, [(kind, index, told)])
                if remaining:
                    self.assertEqual(see(index, told), len(remaining))
                    records.append((kind, index, told))
                    ways = remaining
                    accepted += 1
                else:
                    self.fails(Contradiction, see, index, told)
                    refused += 1
                self.agrees(observer, comings, goings, records, ways)
            found += open_before and observer.find_party() is not None
        self.assertGreater(min(accepted, refused, found), 15)

    def test_a_contradiction_changes_nothing(self):
        observer = GoingObserver(COMINGS, GOINGS)
        self.assertEqual(observer.see_lift(0, 1), 2)
        before = state(observer)
        self.assertEqual(before, [[("lift", 0, 1)], 2, [["bob"], ["ann", "cid"], ["ann", "cid"]], None])
        for see, index, told in ((observer.see_lift, 0, 0), (observer.see_lift, 0, 2), (observer.see_lift, 2, 1),
                                 (observer.see_lift, 1, -1), (observer.see_lift, 1, 10 ** 30),
                                 (observer.see_guest, 0, "ann"), (observer.see_guest, 0, "cid"),
                                 (observer.see_guest, 1, "bob")):
            self.fails(Contradiction, see, index, told)
            self.assertEqual(state(observer), before)
        self.assertEqual(observer.see_guest(2, "ann"), 1)
        self.assertEqual(observer.find_party().stays, (("ann", 0, 7), ("bob", 1, 3), ("cid", 2, 5)))

    def test_who_came_in_the_tick_of_a_going_is_not_lifted(self):
        observer = GoingObserver((("ann", 0), ("bob", 3), ("cid", 2)), (3, 5, 7))
        self.assertEqual(observer.way_count(), 4)
        self.fails(Contradiction, observer.see_lift, 0, 2)
        self.assertEqual(observer.see_lift(0, 1), 2)
        self.assertEqual(observer.possible_guests(0), ["ann"])

    def test_who_came_together_lie_in_the_order_of_the_list(self):
        observer = GoingObserver((("bob", 4), ("ann", 4)), (5, 6))
        self.assertEqual(observer.see_lift(0, 1), 1)
        self.assertEqual(observer.find_party().stays, (("bob", 4, 5), ("ann", 4, 6)))

    def test_the_list_need_not_be_in_the_order_of_coming(self):
        observer = GoingObserver((("cid", 2), ("ann", 0), ("bob", 1)), GOINGS)
        self.assertEqual(observer.see_lift(0, 2), 2)
        self.assertEqual(observer.possible_guests(0), ["ann"])
        self.assertEqual(observer.possible_guests(2), ["bob", "cid"])
        self.assertEqual(observer.see_lift(1, 0), 1)
        self.assertEqual(observer.find_party().stays, (("cid", 2, 5), ("ann", 0, 3), ("bob", 1, 7)))

    def test_the_same_may_be_seen_again(self):
        observer = GoingObserver(COMINGS, GOINGS)
        self.assertEqual([observer.see_lift(0, 0), observer.see_lift(0, 0), observer.see_guest(0, "cid"),
                          observer.see_guest(0, "cid")], [2, 2, 2, 2])
        self.assertEqual(observer.records, [("lift", 0, 0), ("lift", 0, 0), ("guest", 0, "cid"), ("guest", 0, "cid")])

    def test_indexes_that_do_not_exist(self):
        observer = GoingObserver(COMINGS, GOINGS)
        before = state(observer)
        for index in (-1, -3, 3, 4, 10 ** 30):
            self.fails(InvalidNumber, observer.see_lift, index, 0)
            self.fails(InvalidNumber, observer.see_lift, index, -1)
            self.fails(InvalidNumber, observer.see_guest, index, "ann")
            self.fails(InvalidNumber, observer.see_guest, index, "zed")
            self.fails(InvalidNumber, observer.possible_guests, index)
        self.assertEqual(state(observer), before)

    def test_unknown_guests(self):
        observer = GoingObserver(COMINGS, GOINGS)
        for name in ("zed", "", "an", "Ann"):
            for index in (0, 2):
                self.fails(UnknownGuest, observer.see_guest, index, name, name=name)
        self.assertEqual(observer.records, [])

    def test_no_party_while_several_ways_remain(self):
        observer = GoingObserver(COMINGS[:2], (3, 5))
        self.assertEqual((observer.way_count(), observer.find_party()), (2, None))

    def test_a_returned_list_may_be_modified(self):
        observer = GoingObserver(COMINGS, GOINGS)
        observer.see_lift(0, 0)
        before = state(observer)
        observer.records.append(("lift", 1, 1))
        observer.possible_guests(1).clear()
        self.assertEqual(state(observer), before)

    def test_observers_know_nothing_of_each_other(self):
        one, other = GoingObserver(COMINGS, GOINGS), GoingObserver(COMINGS, GOINGS)
        one.see_guest(0, "ann")
        self.assertEqual((one.way_count(), other.way_count(), other.records), (2, 6, []))

    def test_kinds_of_results(self):
        observer = GoingObserver(COMINGS, GOINGS)
        self.assertIs(type(observer.records), list)
        self.assertIs(type(observer.possible_guests(0)), list)
        self.assertIs(type(observer.way_count()), int)
        self.assertIs(type(observer.see_lift(2, 0)), int)
        with self.assertRaises(AttributeError):
            observer.records = []


class TenGuestsTest(ObserverCase):
    def test_observed_from_the_first_to_the_last_going(self):
        observer = GoingObserver(TEN, TEN_GOINGS)
        self.assertEqual(observer.possible_guests(4), list(NAMES[:10]))
        # Who lifts 4 of 10, then 4 of 9 and so on, leaves so many ways for the rest.
        for index, lifted in enumerate((4, 4, 4, 4, 4, 4, 3, 2, 1)):
            self.assertEqual(observer.see_lift(index, lifted), math.factorial(9 - index))
        self.assertEqual([name for name, _, _ in sorted(observer.find_party().stays, key=lambda stay: stay[2])],
                         list("fedcbaghij"))

    def test_observed_from_the_last_to_the_first_going(self):
        observer = GoingObserver(TEN[::-1], TEN_GOINGS)
        ways = [observer.see_lift(index, 0) for index in range(9, -1, -1)]
        # So many pairs can lie above at each going, the last one excepted.
        expected = [math.factorial(10) // math.factorial(many) for many in range(1, 11)]
        self.assertEqual(ways, expected)
        self.assertEqual(observer.find_party().stays, tuple((name, come, 19 - come) for name, come in TEN[::-1]))

    def test_guests_who_come_between_the_goings(self):
        comings = tuple((name, 2 * (place // 2)) for place, name in enumerate(NAMES[:10]))
        observer = GoingObserver(comings, (1, 3, 5, 7, 9, 10, 11, 12, 13, 14))
        self.assertEqual(observer.way_count(), 2 * 3 * 4 * 5 * 6 * 120)
        self.assertEqual(observer.possible_guests(2), list("abcdef"))
        self.assertEqual(observer.see_guest(4, "j"), 2 * 3 * 4 * 5 * 120)
        self.assertEqual(observer.possible_guests(5), list("abcdefghi"))
