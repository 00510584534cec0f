"""Point 13: live piles."""

from shoepile import errors
from shoepile.errors import InvalidName, InvalidNumber, PartyError, TooEarly, UnknownGuest
from shoepile.live import LivePile
from shoepile.parties import Party
from tests.live_helpers import LAST, WRONG_NAMES, LiveCase, course, operations_of, state
from tests.model import SlowLive, mixed_parties


class PilesTest(LiveCase):
    def test_numbers_of_piles(self):
        for piles in (1, 2, 9):
            live = LivePile(piles=piles)
            self.assertEqual(state(live), (0, 0, [()] * piles, [], []))
            self.assertEqual(live.come("ann", piles - 1), 1)
            self.assertEqual(live.standing, [()] * (piles - 1) + [("ann",)])

    def test_one_pile_if_no_number_is_given(self):
        self.assertEqual(LivePile().standing, [()])

    def test_wrong_numbers_of_piles(self):
        for piles in (0, 10, -1, 11, LAST, True):
            with self.subTest(piles), self.assertRaises(InvalidNumber):
                LivePile(piles=piles)

    def test_the_number_of_piles_is_given_by_its_name(self):
        with self.assertRaises(TypeError):
            LivePile(2)

    def test_properties_cannot_be_assigned(self):
        for name in ("now", "lifted_pairs", "standing", "departed", "history"):
            with self.subTest(name), self.assertRaises(AttributeError):
                setattr(LivePile(), name, 0)


class ComeTest(LiveCase):
    def test_returns_how_many_pairs_lie_on_the_pile(self):
        live = LivePile(piles=2)
        self.assertEqual([live.come("ann", 0), live.come("bob", 0), live.come("cid", 1), live.come("dan", 0)],
                         [1, 2, 1, 3])
        self.assertEqual(state(live), (0, 0, [("ann", "bob", "dan"), ("cid",)], [], [
            ("come", "ann", 0), ("come", "bob", 0), ("come", "cid", 1), ("come", "dan", 0)]))
        live.wait(1)
        live.go("bob")
        self.assertEqual(live.come("eve", 0), 3)

    def test_names_of_one_and_of_eight_letters(self):
        live = LivePile()
        self.assertEqual([live.come(name, 0) for name in ("a", "z", "abcdefgh", "zzzzzzzz")], [1, 2, 3, 4])

    def test_wrong_names(self):
        live = LivePile(piles=2)
        live.come("ann", 0)
        for name in WRONG_NAMES:
            with self.subTest(name):
                self.refuses(InvalidName, live, live.come, name, 0)

    def test_guests_who_are_there(self):
        live = LivePile(piles=2)
        live.come("ann", 0)
        live.wait(1)
        live.come("bob", 0)
        for name in ("ann", "bob"):
            for pile in (0, 1):
                self.refuses(InvalidName, live, live.come, name, pile)

    def test_wrong_piles(self):
        for piles in (1, 2, 9):
            live = LivePile(piles=piles)
            for pile in (-1, piles, piles + 1, -piles, LAST, True):
                self.refuses(InvalidNumber, live, live.come, "ann", pile)

    def test_a_wrong_name_goes_before_a_wrong_pile(self):
        live = LivePile(piles=2)
        live.come("ann", 0)
        for name in (*WRONG_NAMES, "ann"):
            for pile in (-1, 2):
                self.refuses(InvalidName, live, live.come, name, pile)

    def test_somebody_who_left_comes_again(self):
        live = LivePile(piles=2)
        live.apply(("come", "ann", 0), ("wait", 2), ("go", "ann"))
        self.assertEqual(live.come("ann", 1), 1)
        self.assertEqual((live.standing, live.departed), ([(), ("ann",)], [("ann", 0, 2)]))
        live.wait(1)
        live.go("ann")
        live.come("ann", 0)
        self.assertEqual((live.standing, live.departed), ([("ann",), ()], [("ann", 0, 2), ("ann", 2, 3)]))


class GoTest(LiveCase):
    def test_returns_whose_shoes_are_lifted_from_the_top_down(self):
        live = LivePile(piles=2)
        live.apply(*[("come", name, int(name == "x")) for name in "abxcd"], ("wait", 3))
        self.assertEqual([live.go("b"), live.go("x"), live.go("a"), live.go("d"), live.go("c")],
                         [["d", "c"], [], ["d", "c"], [], []])
        self.assertEqual(live.lifted_pairs, 4)
        self.assertEqual(live.standing, [(), ()])
        self.assertEqual(live.departed, [(name, 0, 3) for name in "bxadc"])
        self.assertEqual(live.history[-6:], [("wait", 3), *[("go", name) for name in "bxadc"]])

    def test_in_the_tick_of_coming(self):
        live = LivePile()
        live.come("ann", 0)
        self.refuses(TooEarly, live, live.go, "ann")
        live.wait(1)
        live.come("bob", 0)
        self.refuses(TooEarly, live, live.go, "bob")
        self.assertEqual(live.go("ann"), ["bob"])
        live.come("ann", 0)
        self.refuses(TooEarly, live, live.go, "ann")
        live.wait(1)
        self.assertEqual([live.go("bob"), live.go("ann")], [["ann"], []])

    def test_somebody_who_is_not_there(self):
        live = LivePile(piles=2)
        self.refuses(UnknownGuest, live, live.go, "ann", name="ann")
        live.come("ann", 1)
        for name in ("bob", *WRONG_NAMES):
            self.refuses(UnknownGuest, live, live.go, name, name=name)
        live.wait(1)
        live.go("ann")
        # Unknown, though it is the tick of the last coming.
        self.refuses(UnknownGuest, live, live.go, "ann", name="ann")

    def test_who_was_reverted_is_not_there(self):
        live = LivePile()
        live.come("ann", 0)
        live.undo()
        self.refuses(UnknownGuest, live, live.go, "ann", name="ann")


class WaitTest(LiveCase):
    def test_returns_the_present_tick(self):
        live = LivePile()
        self.assertEqual([live.wait(1), live.wait(5), live.now, live.wait(LAST - 6)], [1, 6, 6, LAST])
        self.assertEqual((live.now, live.history), (LAST, [("wait", 1), ("wait", 5), ("wait", LAST - 6)]))

    def test_longest(self):
        live = LivePile()
        self.assertEqual(live.wait(LAST), LAST)
        for ticks in (1, 2, LAST):
            self.refuses(InvalidNumber, live, live.wait, ticks)
        live.come("ann", 0)
        self.refuses(TooEarly, live, live.go, "ann")

    def test_wrong_numbers(self):
        live = LivePile()
        for ticks in (0, -1, LAST + 1, 2 * LAST, -LAST, True):
            self.refuses(InvalidNumber, live, live.wait, ticks)

    def test_not_beyond_the_last_tick(self):
        live = LivePile()
        live.wait(3)
        for ticks in (LAST - 2, LAST):
            self.refuses(InvalidNumber, live, live.wait, ticks)
        self.assertEqual(live.wait(LAST - 3), LAST)


class ModelTest(LiveCase):
    def test_random_operations(self):
        for seed in range(40):
            piles = seed % 4 + 1
            live, slow = LivePile(piles=piles), SlowLive(piles)
            for operation in operations_of(seed, 60, piles):
                word, *items = operation
                fault = slow.fault(word, *items)
                call = getattr(live, word)
                if fault:
                    with self.assertRaises(PartyError) as caught:
                        call(*items)
                    self.assertIs(type(caught.exception), getattr(errors, fault), operation)
                else:
                    result = slow.perform(operation)
                    self.assertEqual(call(*items), result, operation)
                self.assertEqual(state(live), slow.state(), operation)

    def test_values_are_of_the_promised_kinds(self):
        live = LivePile(piles=2)
        results = live.apply(("come", "ann", 0), ("come", "bob", 0), ("wait", 2), ("go", "ann"))
        for value, kind in zip([*results, *state(live)], [int, int, int, list, int, int, list, list, list]):
            self.assertIs(type(value), kind)
        for item in (*live.standing, *live.departed, *live.history):
            self.assertIs(type(item), tuple)

    def test_returned_lists_may_be_modified(self):
        live = LivePile(piles=2)
        live.apply(("come", "ann", 0), ("come", "bob", 0), ("come", "cid", 1), ("wait", 1))
        live.go("ann").append("zed")
        before, told = state(live), course(live)
        for _ in range(2):
            for value in (live.standing, live.departed, live.history):
                value.append("zed")
                value[0] = "zed"
            self.assertEqual((state(live), course(live)), (before, told))
        live.undo()
        live.redo()
        self.assertEqual((live.go("bob"), live.departed), ([], [("ann", 0, 1), ("bob", 0, 1)]))


class PartyTest(LiveCase):
    def test_each_guest_lifts_as_many_pairs_as_the_party_tells(self):
        for stays in mixed_parties(60, range(9), 9, 31):
            party, live = Party(*stays), LivePile()
            # Whoever goes in a tick goes before those who come; of several, those first who lie higher.
            for tick in range(10):
                for name in [name for name in live.standing[0][::-1] if party[name][1] == tick]:
                    above = [lifted for taker, lifted in party.crossings() if taker == name]
                    self.assertEqual(live.go(name), above)
                    self.assertEqual(len(above), party(name))
                for name, come, _ in stays:
                    if come == tick:
                        live.come(name, 0)
                self.assertEqual(live.standing[0], tuple(party.pile_at(tick)))
                live.wait(1)
            self.assertEqual(sorted(live.departed), sorted(stays))
            self.assertEqual(live.lifted_pairs, len(list(party.crossings())))


class ManyOperationsTest(LiveCase):
    def test_many_guests(self):
        live = LivePile(piles=2)
        names = [a + b + c for a in "abcdefghij" for b in "abcdefghij" for c in "abcdefghij"]
        self.assertEqual([live.come(name, 0) for name in names], list(range(1, 1001)))
        live.wait(1)
        self.assertEqual(live.go(names[0]), names[:0:-1])
        self.assertEqual([live.go(name) for name in names[:0:-1]], [[]] * 999)
        self.assertEqual((live.lifted_pairs, len(live.departed), len(live.history)), (999, 1000, 2001))
        while live.undo():
            pass
        self.assertEqual(state(live), (0, 0, [(), ()], [], []))
