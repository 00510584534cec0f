"""Points 11 and 12: habits, and what happens with them."""

import unittest

from shoepile.errors import InvalidNumber
from shoepile.habits import Habit, LowHabit, PlanHabit, TurnHabit, chosen_piles, happenings, lifted_with
from shoepile.parties import Party, all_lifting
from tests.model import NAMES, happen_with, mixed_parties

KINDS = {Habit: "first", TurnHabit: "turn", LowHabit: "low", PlanHabit: "plan"}
STAYS = (("ann", 0, 5), ("bob", 1, 7), ("cid", 2, 3))


def slow_choice(kind, count):
    """How a habit chooses, written from the document once more."""
    def choose(number, piles, go):
        if kind == "first":
            return 0
        if kind == "turn":
            return list(range(count))[number % count]
        if kind == "low":
            return min(range(count), key=lambda pile: (len(piles[pile]), pile))
        before = [sum(tick < go for tick in pile) for pile in piles]
        free = [pile for pile in range(count) if before[pile] == 0]
        return free[0] if free else min(range(count), key=lambda pile: (before[pile], pile))
    return choose


class HabitTest(unittest.TestCase):
    def test_kinds(self):
        for kind, word in KINDS.items():
            self.assertEqual((kind.KIND, kind(3).KIND), (word, word))
            self.assertIsInstance(kind(2), Habit)
            self.assertIn("__call__", vars(kind))

    def test_numbers_of_piles(self):
        for kind in KINDS:
            self.assertEqual([kind(count).pile_count for count in range(1, 10)], list(range(1, 10)))
            for count in (0, -1, 10, 11, 10 ** 30, True):
                with self.subTest(kind=kind, count=count), self.assertRaises(InvalidNumber):
                    kind(count)

    def test_pile_count_cannot_be_assigned(self):
        for kind in KINDS:
            with self.assertRaises(AttributeError):
                kind(2).pile_count = 3

    def test_first(self):
        habit = Habit(3)
        for number in range(5):
            self.assertEqual(habit(number, [(1, 2, 3), (), ()], 1), 0)

    def test_turn(self):
        habit = TurnHabit(3)
        self.assertEqual([habit(number, [(), (), ()], 7) for number in range(7)], [0, 1, 2, 0, 1, 2, 0])
        self.assertEqual(habit(4, [(), (1, 2), ()], 7), 1)
        self.assertEqual([TurnHabit(1)(number, [()], 7) for number in range(3)], [0, 0, 0])
        self.assertEqual([TurnHabit(9)(number, [()] * 9, 7) for number in (8, 9, 10, 23)], [8, 0, 1, 5])

    def test_low(self):
        self.assertEqual(LowHabit(3)(0, [(9,), (), (8,)], 7), 1)
        self.assertEqual(LowHabit(3)(0, [(9, 8), (3,), (8,)], 7), 1)
        self.assertEqual(LowHabit(3)(5, [(9, 8), (3, 4), (8, 9)], 7), 0)
        self.assertEqual(LowHabit(3)(5, [(), (), ()], 7), 0)
        self.assertEqual(LowHabit(2)(5, [(9,), ()], 7), 1)
        self.assertEqual(LowHabit(1)(5, [(9,)], 7), 0)

    def test_plan(self):
        # Piles on which nobody lies who goes before tick 7.
        self.assertEqual(PlanHabit(2)(0, [(8, 9), ()], 7), 0)
        self.assertEqual(PlanHabit(3)(0, [(6,), (9, 8), ()], 7), 1)
        self.assertEqual(PlanHabit(2)(0, [(6,), (7, 7)], 7), 1)
        self.assertEqual(PlanHabit(2)(0, [(7,), ()], 7), 0)
        # The fewest who go before tick 7.
        self.assertEqual(PlanHabit(3)(0, [(5, 6), (6, 9, 9), (6,)], 7), 1)
        self.assertEqual(PlanHabit(2)(0, [(1, 2), (3, 4)], 7), 0)
        self.assertEqual(PlanHabit(2)(0, [(9, 1, 2, 9), (9, 9, 9, 3)], 7), 1)
        self.assertEqual(PlanHabit(1)(0, [(1, 2)], 7), 0)

    def test_arguments_are_not_modified(self):
        for kind in KINDS:
            piles = [(5, 4), (), (8,)]
            habit = kind(3)
            self.assertEqual([habit(4, piles, 6), habit(4, piles, 6)], [habit(4, piles, 6)] * 2)
            self.assertEqual(piles, [(5, 4), (), (8,)])


class HappeningsTest(unittest.TestCase):
    def test_all_against_a_slow_model(self):
        parties = [*mixed_parties(60, range(8), 7, 21), *mixed_parties(30, (9, 12), 15, 22)]
        for stays in parties:
            for kind, word in KINDS.items():
                for count in (1, 2, 3, 9):
                    party, habit = Party(*stays), kind(count)
                    expected = happen_with(stays, count, slow_choice(word, count))
                    self.assertEqual(list(happenings(party, habit)), expected, (stays, word, count))
                    piles = {name: pile for what, name, pile in expected if what == "come"}
                    self.assertEqual(list(chosen_piles(party, habit).items()),
                                     [(stay[0], piles[stay[0]]) for stay in stays])
                    self.assertEqual(lifted_with(party, habit), sum(many for what, _, many in expected if what == "go"))

    def test_is_a_generator(self):
        first = happenings(Party(*STAYS), Habit(1))
        self.assertIs(iter(first), first)
        self.assertEqual(next(first), ("come", "ann", 0))

    def test_no_guests(self):
        for kind in KINDS:
            self.assertEqual(list(happenings(Party(), kind(2))), [])
            self.assertEqual((chosen_piles(Party(), kind(2)), lifted_with(Party(), kind(2))), ({}, 0))

    def test_several_go_in_one_tick_from_different_piles(self):
        party = Party(*[(name, place, 9) for place, name in enumerate("abcdef")], ("z", 9, 10))
        self.assertEqual(list(happenings(party, TurnHabit(3)))[6:],
                         [("go", name, 0) for name in "daebfc"] + [("come", "z", 0), ("go", "z", 0)])

    def test_those_who_go_lift_only_their_own_pile(self):
        stays = (("a", 0, 4), ("b", 0, 4), ("c", 1, 4), ("d", 1, 6), ("e", 2, 8), ("f", 3, 4), ("g", 3, 8))
        self.assertEqual(list(happenings(Party(*stays), TurnHabit(2)))[7:],
                         [("go", "c", 2), ("go", "a", 2), ("go", "f", 0), ("go", "b", 1), ("go", "d", 0),
                          ("go", "g", 0), ("go", "e", 0)])

    def test_who_goes_makes_room_for_who_comes_in_the_same_tick(self):
        party = Party(("a", 0, 4), ("b", 1, 9), ("c", 4, 6))
        self.assertEqual(chosen_piles(party, LowHabit(2)), {"a": 0, "b": 1, "c": 0})
        self.assertEqual(chosen_piles(party, PlanHabit(2)), {"a": 0, "b": 1, "c": 0})
        self.assertEqual(list(happenings(party, LowHabit(2)))[2:4], [("go", "a", 0), ("come", "c", 0)])

    def test_numbers_go_by_the_order_of_coming_and_dicts_by_the_list(self):
        party = Party(("c", 5, 9), ("a", 0, 9), ("d", 5, 8), ("b", 2, 9))
        self.assertEqual(list(chosen_piles(party, TurnHabit(9)).items()), [("c", 2), ("a", 0), ("d", 3), ("b", 1)])

    def test_one_pile_is_the_pile_of_the_party(self):
        for stays in mixed_parties(30, range(8), 9, 23):
            party = Party(*stays)
            for kind in KINDS:
                self.assertEqual(lifted_with(party, kind(1)), all_lifting(party))
                takers = [name for what, name, many in happenings(party, kind(1)) if what == "go" for _ in range(many)]
                self.assertEqual(takers, [name for name, _ in party.crossings()])

    def test_as_many_piles_as_guests_in_turn(self):
        party = Party(*[(name, place, place + 9) for place, name in enumerate(NAMES[:9])])
        self.assertEqual(chosen_piles(party, TurnHabit(9)), {name: place for place, name in enumerate(NAMES[:9])})
        self.assertEqual((lifted_with(party, TurnHabit(9)), lifted_with(party, TurnHabit(8))), (0, 1))

    def test_habits_see_the_piles_as_they_are(self):
        told = []

        class Watching(Habit):
            def __call__(self, number, piles, go):
                told.append((number, list(piles), go))
                piles.clear()
                return number % 2

        party = Party(("a", 0, 9), ("b", 0, 5), ("c", 1, 7), ("d", 5, 6), ("e", 5, 8))
        events = list(happenings(party, Watching(2)))
        self.assertEqual(told, [(0, [(), ()], 9), (1, [(9,), ()], 5), (2, [(9,), (5,)], 7), (3, [(9, 7), ()], 6),
                                (4, [(9, 7), (6,)], 8)])
        self.assertEqual(events[5:], [("come", "e", 0), ("go", "d", 0), ("go", "c", 1), ("go", "e", 0), ("go", "a", 0)])

    def test_ticks_far_apart(self):
        party = Party(("a", 0, 10 ** 9), ("b", 1, 10 ** 9 - 1), ("c", 10 ** 9 - 2, 10 ** 9))
        self.assertEqual(list(happenings(party, Habit(1)))[3:], [("go", "b", 1), ("go", "c", 0), ("go", "a", 0)])

    def test_a_plan_that_lifts_less_than_the_others(self):
        party = Party(("a", 0, 9), ("b", 1, 4), ("c", 2, 8), ("d", 3, 5))
        self.assertEqual([lifted_with(party, kind(2)) for kind in (PlanHabit, LowHabit, TurnHabit, Habit)],
                         [0, 1, 1, 2])
