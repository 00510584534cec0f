"""Point 14: what can be reverted, performed together, and tried."""

import random

from shoepile import errors
from shoepile.errors import InvalidName, InvalidNumber, InvalidOperation, PartyError, TooEarly, UnknownGuest
from shoepile.live import LivePile, Trial
from tests.live_helpers import LAST, LiveCase, course, operations_of, random_operation, state
from tests.model import SlowLive

EVENING = (("come", "ann", 0), ("come", "bob", 1), ("wait", 2), ("come", "cid", 0), ("wait", 1), ("go", "ann"),
           ("come", "ann", 1), ("wait", 7), ("go", "bob"))
SHAPELESS = ((), ("come",), ("come", "ann"), ("come", "ann", 0, 0), ("go",), ("go", "ann", 0), ("wait",),
             ("wait", 1, 1), ("undo",), ("redo",), ("apply", 1), ("leave", "ann"), ("Come", "ann", 0), ("", "ann"),
             (1, 2), (None, "ann"), ("come ann", 0))


class UndoTest(LiveCase):
    def test_back_to_the_start_and_forth_to_the_end(self):
        live = LivePile(piles=2)
        states = [state(live)]
        for operation in EVENING:
            live.apply(operation)
            states.append(state(live))
        for before in states[-2::-1]:
            self.assertIs(live.undo(), True)
            self.assertEqual(state(live), before)
        self.assertIs(live.undo(), False)
        self.assertEqual(state(live), states[0])
        for after in states[1:]:
            self.assertIs(live.redo(), True)
            self.assertEqual(state(live), after)
        self.assertIs(live.redo(), False)
        self.assertEqual(state(live), states[-1])

    def test_nothing_to_revert_or_to_perform_again(self):
        live = LivePile()
        self.assertIs(live.undo(), False)
        self.assertIs(live.redo(), False)
        live.wait(1)
        self.assertIs(live.redo(), False)
        self.assertEqual((live.undo(), live.undo(), live.redo(), live.redo()), (True, False, True, False))

    def test_redo_performs_the_one_that_was_reverted_last(self):
        live = LivePile.replay(1, ("wait", 1), ("wait", 2), ("wait", 3))
        live.undo()
        live.undo()
        live.redo()
        self.assertEqual(live.history, [("wait", 1), ("wait", 2)])
        live.undo()
        live.undo()
        self.assertEqual([live.redo() and live.now for _ in range(4)], [1, 3, 6, False])

    def test_redo_after_a_failed_operation(self):
        live = LivePile.replay(1, ("come", "ann", 0), ("wait", 1), ("go", "ann"))
        live.undo()
        self.refuses(InvalidName, live, live.come, "ann", 0)
        self.refuses(InvalidNumber, live, live.come, "bob", 1)
        self.refuses(UnknownGuest, live, live.go, "bob", name="bob")
        self.refuses(InvalidNumber, live, live.wait, 0)
        self.refuses(InvalidOperation, live, live.apply, ("wait",), index=0)
        self.refuses(InvalidNumber, live, live.apply, ("wait", 1), ("wait", LAST))
        self.assertIs(live.redo(), True)
        self.assertEqual(live.departed, [("ann", 0, 1)])

    def test_redo_after_a_new_operation(self):
        for operation in (("come", "bob", 0), ("wait", 1), ("go", "ann")):
            live = LivePile.replay(1, ("come", "ann", 0), ("wait", 1), ("go", "ann"), ("wait", 5))
            live.undo()
            live.undo()
            live.apply(operation)
            self.assertIs(live.redo(), False)
            self.assertEqual(live.history, [("come", "ann", 0), ("wait", 1), operation])
            live.undo()
            live.redo()
            self.assertEqual(live.history[2:], [operation])
            live.undo()
            live.undo()
            live.undo()
            self.assertEqual(state(live), (0, 0, [()], [], []))

    def test_random_operations(self):
        for seed in range(30):
            source = random.Random(seed)
            piles = seed % 3 + 1
            live, slow = LivePile(piles=piles), SlowLive(piles)
            for _ in range(80):
                what = source.choice(("undo", "undo", "redo", "new", "new", "new", "new"))
                if what == "new":
                    operation = random_operation(source, piles)
                    if slow.fault(*operation):
                        self.assertRaises(PartyError, live.apply, operation)
                    else:
                        self.assertEqual(live.apply(operation), [slow.perform(operation)])
                else:
                    self.assertIs(getattr(live, what)(), getattr(slow, what)())
                self.assertEqual(state(live), slow.state())


class ApplyTest(LiveCase):
    def test_returns_the_list_of_the_results(self):
        live = LivePile(piles=2)
        self.assertEqual(live.apply(*EVENING), [1, 1, 2, 2, 3, ["cid"], 2, 10, ["ann"]])
        self.assertEqual(live.history, list(EVENING))
        self.assertEqual(state(live), (10, 2, [("cid",), ("ann",)], [("ann", 0, 3), ("bob", 0, 10)], list(EVENING)))

    def test_each_operation_is_reverted_by_itself(self):
        live = LivePile(piles=2)
        live.apply(*EVENING)
        states, present = course(live)
        self.assertEqual((len(states), present), (len(EVENING) + 1, len(EVENING)))
        self.assertEqual([told[4] for told in states], [list(EVENING[:many]) for many in range(len(EVENING) + 1)])

    def test_no_operations(self):
        live = LivePile.replay(2, *EVENING)
        live.undo()
        before = course(live)
        self.assertEqual(live.apply(), [])
        self.assertEqual(course(live), before)
        self.assertIs(live.redo(), True)

    def test_operations_without_the_right_form_at_each_place(self):
        live = LivePile(piles=2)
        live.apply(("come", "dan", 0), ("wait", 1))
        live.undo()
        for wrong in SHAPELESS:
            for place in range(len(EVENING) + 1):
                with self.subTest(wrong=wrong, place=place):
                    operations = (*EVENING[:place], wrong, *EVENING[place:])
                    self.refuses(InvalidOperation, live, live.apply, *operations, index=place)

    def test_the_first_of_several_without_the_right_form(self):
        live = LivePile()
        self.refuses(InvalidOperation, live, live.apply, ("wait", 1), ("go",), ("come",), index=1)

    def test_a_wrong_form_goes_before_all_errors_of_operations(self):
        live = LivePile()
        self.refuses(InvalidOperation, live, live.apply, ("go", "zed"), ("wait", 0), ("wait", 1, 2), index=2)

    def test_an_operation_that_fails_in_the_middle(self):
        for error, wrong, attributes in (
            (InvalidName, ("come", "cid", 0), {}), (InvalidName, ("come", "Cid", 7), {}),
            (InvalidNumber, ("come", "dan", 2), {}), (UnknownGuest, ("go", "dan"), {"name": "dan"}),
            (TooEarly, ("go", "cid"), {}), (InvalidNumber, ("wait", 0), {}), (InvalidNumber, ("wait", LAST), {}),
        ):
            live = LivePile(piles=2)
            live.apply(("wait", 3), ("come", "eve", 1), ("wait", 1))
            live.undo()
            with self.subTest(wrong):
                self.refuses(error, live, live.apply, *EVENING[:4], wrong, *EVENING[4:], **attributes)
                self.refuses(error, live, live.apply, *EVENING[:4], wrong, ("wait", 0), **attributes)
                self.assertIs(live.redo(), True)
                self.assertEqual(state(live), (4, 0, [(), ("eve",)], [],
                                               [("wait", 3), ("come", "eve", 1), ("wait", 1)]))

    def test_random_operations(self):
        for seed in range(60):
            live, slow = LivePile(piles=2), SlowLive(2)
            for turn in range(8):
                operations = operations_of(1000 * seed + turn, 3, 2)
                trial = SlowLive(2)
                trial.done = list(slow.done)
                results, fault = [], None
                for operation in operations:
                    fault = fault or trial.fault(*operation)
                    if not fault:
                        results.append(trial.perform(operation))
                if fault:
                    with self.assertRaises(getattr(errors, fault)):
                        live.apply(*operations)
                else:
                    self.assertEqual(live.apply(*operations), results)
                    slow = trial
                self.assertEqual(state(live), slow.state())

    def test_results_may_be_modified(self):
        live = LivePile()
        results = live.apply(("come", "a", 0), ("come", "b", 0), ("wait", 1), ("go", "a"))
        before = course(live)
        results[3].append("zed")
        results.clear()
        self.assertEqual(course(live), before)


class ReplayTest(LiveCase):
    def test_a_live_pile_after_operations(self):
        live = LivePile.replay(2, *EVENING)
        other = LivePile(piles=2)
        other.apply(*EVENING)
        self.assertIs(type(live), LivePile)
        self.assertEqual(course(live), course(other))
        self.assertEqual(LivePile.replay(2, *live.history).history, list(EVENING))

    def test_no_operations(self):
        live = LivePile.replay(9)
        self.assertEqual(state(live), (0, 0, [()] * 9, [], []))
        self.assertIs(live.undo(), False)

    def test_errors_in_order(self):
        for piles in (0, 10, -1):
            for operations in ((), (("wait", 1),), (("wait", 0),), (("wait",),)):
                with self.subTest(piles=piles, operations=operations), self.assertRaises(InvalidNumber):
                    LivePile.replay(piles, *operations)
        with self.assertRaises(InvalidOperation) as caught:
            LivePile.replay(1, ("go", "zed"), ("wait", 1), ())
        self.assertEqual(caught.exception.index, 2)
        with self.assertRaises(UnknownGuest) as caught:
            LivePile.replay(1, ("wait", 1), ("go", "zed"), ("wait", 0))
        self.assertEqual(caught.exception.name, "zed")
        self.assertRaises(InvalidNumber, LivePile.replay, 1, ("come", "ann", 1))
        self.assertRaises(InvalidName, LivePile.replay, 1, ("come", "ann", 0), ("come", "ann", 0))
        self.assertRaises(TooEarly, LivePile.replay, 1, ("come", "ann", 0), ("go", "ann"))

    def test_live_piles_do_not_depend_on_each_other(self):
        first, second = LivePile.replay(2, *EVENING), LivePile.replay(2, *EVENING)
        first.undo()
        first.wait(3)
        self.assertEqual(second.history, list(EVENING))


class TrialTest(LiveCase):
    def setUp(self):
        self.live = LivePile.replay(2, *EVENING)
        self.live.undo()
        self.live.undo()
        self.before = course(self.live)

    def check_as_before(self):
        self.assertEqual(course(self.live), self.before)
        self.assertEqual([self.live.redo(), self.live.redo(), self.live.redo()], [True, True, False])
        self.assertEqual(self.live.history, list(EVENING))

    def test_without_an_error(self):
        with Trial(self.live):
            self.live.come("dan", 0)
            self.live.wait(3)
            self.live.go("dan")
            self.assertEqual(self.live.departed[-1], ("dan", 3, 6))
            self.assertIs(self.live.redo(), False)
        self.check_as_before()

    def test_an_empty_block(self):
        with Trial(self.live):
            pass
        self.check_as_before()

    def test_with_an_error_of_the_package(self):
        with self.assertRaises(UnknownGuest) as caught:
            with Trial(self.live):
                self.live.wait(3)
                self.live.go("zed")
        self.assertEqual(caught.exception.name, "zed")
        self.check_as_before()

    def test_with_another_error(self):
        for error in (KeyError, KeyboardInterrupt):
            with self.assertRaises(error):
                with Trial(self.live):
                    self.live.undo()
                    self.live.wait(3)
                    raise error
        self.check_as_before()

    def test_over_undo_and_redo(self):
        with Trial(self.live):
            while self.live.undo():
                pass
            self.assertEqual(self.live.history, [])
        self.assertEqual(course(self.live), self.before)
        with Trial(self.live):
            while self.live.redo():
                pass
            self.assertEqual(self.live.history, list(EVENING))
        self.assertEqual(course(self.live), self.before)
        with Trial(self.live):
            self.live.undo()
            self.live.undo()
            self.live.come("eve", 1)
            self.assertIs(self.live.redo(), False)
        self.check_as_before()

    def test_blocks_in_blocks(self):
        with Trial(self.live):
            self.live.wait(1)
            middle = course(self.live)
            with Trial(self.live):
                self.live.undo()
                self.live.come("dan", 0)
            self.assertEqual(course(self.live), middle)
            self.live.wait(2)
        self.check_as_before()

    def test_a_block_begins_where_it_stands(self):
        trial = Trial(self.live)
        self.live.wait(1)
        for ticks in (4, 5):
            before = course(self.live)
            with trial:
                self.live.wait(ticks)
            self.assertEqual(course(self.live), before)
            self.live.wait(1)
        self.assertEqual(self.live.history, [*EVENING[:-2], *[("wait", 1)] * 3])

    def test_what_is_done_after_a_block_stays(self):
        with Trial(self.live):
            self.live.wait(1)
        self.live.wait(6)
        self.assertEqual(self.live.history, [*EVENING[:-2], ("wait", 6)])
        self.assertIs(self.live.redo(), False)
        self.live.undo()
        self.assertEqual(self.live.history, list(EVENING[:-2]))

    def test_a_failed_apply_in_a_block(self):
        with Trial(self.live):
            self.live.wait(1)
            middle = course(self.live)
            self.assertRaises(InvalidNumber, self.live.apply, ("come", "dan", 0), ("wait", 0))
            self.assertEqual(course(self.live), middle)
        self.check_as_before()

    def test_other_live_piles_are_not_brought_back(self):
        other = LivePile()
        with Trial(self.live):
            other.wait(2)
        self.assertEqual(other.history, [("wait", 2)])
