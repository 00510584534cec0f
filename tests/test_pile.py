"""Points 4 and 5: the pile."""

import unittest

from shoepile.errors import InvalidTick, UnknownGuest
from shoepile.parties import Party, all_lifting, calmest_order, change_without
from tests.model import all_parties, happen, mixed_parties

LAST = 10 ** 9


def many_parties():
    yield from all_parties(2, 4)
    yield from all_parties(3, 3)
    yield from mixed_parties(300, range(4, 9), 9, 1)
    yield from mixed_parties(50, range(9, 13), 24, 2)


class PileCase(unittest.TestCase):
    def unknown(self, name, call):
        with self.assertRaises(UnknownGuest) as caught:
            call()
        self.assertEqual(caught.exception.name, name)


class CrossingsTest(PileCase):
    def test_comings_and_goings_in_one_tick(self):
        for stays, lifted in (
            ((("a", 0, 3), ("b", 0, 5)), [("a", "b")]),
            ((("b", 0, 5), ("a", 0, 3)), []),
            ((("a", 0, 5), ("b", 1, 5)), []),
            ((("b", 1, 5), ("a", 0, 5)), []),
            ((("a", 0, 5), ("b", 0, 5)), []),
            ((("a", 0, 5), ("b", 5, 7)), []),
            ((("a", 0, 5), ("b", 4, 6)), [("a", "b")]),
        ):
            with self.subTest(stays):
                self.assertEqual(list(Party(*stays).crossings()), lifted)

    def test_no_guests_and_one(self):
        self.assertEqual(list(Party().crossings()), [])
        self.assertEqual(list(Party(("a", 0, LAST)).crossings()), [])

    def test_from_the_top_down(self):
        party = Party(("a", 0, 5), ("b", 1, 9), ("c", 1, 8), ("d", 2, 4), ("e", 3, 7))
        self.assertEqual(list(party.crossings()),
                         [("d", "e"), ("a", "e"), ("a", "c"), ("a", "b")])

    def test_who_lies_higher_takes_first_in_one_tick(self):
        party = Party(("a", 0, 5), ("b", 1, 5), ("c", 2, 9), ("d", 1, 5))
        self.assertEqual(list(party.crossings()), [("d", "c"), ("b", "c"), ("a", "c")])

    def test_by_the_ticks_of_lifting(self):
        party = Party(("a", 10, 15), ("b", 12, 18), ("c", 0, 3), ("d", 2, 5))
        self.assertEqual(list(party.crossings()), [("c", "d"), ("a", "b")])

    def test_is_a_generator_of_tuples(self):
        crossings = Party(("a", 0, 3), ("b", 1, 5)).crossings()
        self.assertIs(iter(crossings), crossings)
        self.assertEqual(next(crossings), ("a", "b"))
        self.assertRaises(StopIteration, next, crossings)

    def test_as_the_model(self):
        for stays in many_parties():
            self.assertEqual(list(Party(*stays).crossings()), happen(stays)[0], stays)


class CallTest(PileCase):
    def test_as_the_model(self):
        for stays in many_parties():
            lifted = happen(stays)[0]
            party = Party(*stays)
            for name in party.names:
                self.assertEqual(party(name), len([pair for pair in lifted if pair[0] == name]), stays)

    def test_unknown_guest(self):
        self.unknown("zed", lambda: Party(("ann", 0, 5))("zed"))
        self.unknown("ann", lambda: Party()("ann"))

    def test_last_ticks(self):
        party = Party(("a", 0, LAST - 1), ("b", LAST - 2, LAST), ("c", LAST - 1, LAST))
        self.assertEqual([party("a"), party("b"), party("c")], [1, 0, 0])


class PileAtTest(PileCase):
    def test_as_the_model(self):
        for stays in many_parties():
            party = Party(*stays)
            for tick, pile in happen(stays)[1].items():
                self.assertEqual(party.pile_at(tick), pile, (stays, tick))

    def test_who_comes_in_the_tick_in_which_another_goes(self):
        party = Party(("a", 0, 5), ("b", 5, 7), ("c", 3, 5))
        self.assertEqual([party.pile_at(tick) for tick in (4, 5, 6, 7)], [["a", "c"], ["b"], ["b"], []])

    def test_order_of_the_list_in_one_tick(self):
        self.assertEqual(Party(("z", 1, 5), ("m", 0, 5), ("a", 1, 5)).pile_at(1), ["m", "z", "a"])

    def test_first_and_last_tick(self):
        party = Party(("a", 0, LAST - 1), ("b", 1, LAST))
        self.assertEqual([party.pile_at(0), party.pile_at(LAST - 1), party.pile_at(LAST)], [["a"], ["b"], []])
        self.assertEqual(Party().pile_at(0), [])

    def test_wrong_ticks(self):
        for tick in (-1, LAST + 1, -LAST, 10 ** 30, True):
            for party in (Party(), Party(("a", 0, LAST))):
                with self.subTest(tick=tick), self.assertRaises(InvalidTick):
                    party.pile_at(tick)


class AllLiftingTest(PileCase):
    def test_as_the_model(self):
        for stays in many_parties():
            self.assertEqual(all_lifting(Party(*stays)), len(happen(stays)[0]), stays)

    def test_edges(self):
        self.assertEqual([all_lifting(Party()), all_lifting(Party(("a", 0, 1)))], [0, 0])


class ChangeWithoutTest(PileCase):
    def test_as_the_model(self):
        for stays in many_parties():
            lifted = happen(stays)[0]
            for name, _, _ in stays:
                smaller = happen([stay for stay in stays if stay[0] != name])[0]
                expected = []
                for other, _, _ in stays:
                    before = len([pair for pair in lifted if pair[0] == other])
                    after = len([pair for pair in smaller if pair[0] == other])
                    if other != name and after < before:
                        expected.append((other, (before, after)))
                self.assertEqual(list(change_without(Party(*stays), name).items()), expected, (stays, name))

    def test_order_of_the_list(self):
        party = Party(("z", 4, 6), ("top", 5, 9), ("a", 0, 7), ("b", 6, 8))
        self.assertEqual(list(change_without(party, "top").items()), [("z", (1, 0)), ("a", (2, 1))])

    def test_nobody_lifts_less(self):
        self.assertEqual(change_without(Party(("a", 0, 5), ("b", 1, 7)), "a"), {})
        self.assertEqual(change_without(Party(("a", 0, 5)), "a"), {})

    def test_unknown_guest(self):
        self.unknown("zed", lambda: change_without(Party(("a", 0, 5)), "zed"))
        self.unknown("a", lambda: change_without(Party(), "a"))


class CalmestOrderTest(PileCase):
    def test_by_coming_then_later_going_then_list(self):
        stays = (("a", 3, 9), ("b", 0, 4), ("c", 3, 9), ("d", 0, 6), ("e", 3, 10), ("f", 0, 4))
        self.assertEqual(calmest_order(Party(*stays)).names, ("d", "b", "f", "e", "a", "c"))

    def test_keeps_the_stays(self):
        for stays in many_parties():
            party = calmest_order(Party(*stays))
            self.assertIsInstance(party, Party)
            self.assertEqual(sorted(party.stays), sorted(stays))
            places = {stay: place for place, stay in enumerate(stays)}
            keys = [(stay[1], -stay[2], places[stay]) for stay in party.stays]
            self.assertEqual(keys, sorted(keys))

    def test_edges(self):
        self.assertEqual(calmest_order(Party()), Party())
        self.assertEqual(calmest_order(Party(("a", 0, LAST))).stays, (("a", 0, LAST),))
