"""Point 1: what holds for every part."""

import ast
import pathlib
import signal
import unittest

import shoepile
from shoepile.codes import decode_party, encode_party
from shoepile.errors import (Contradiction, DaybookError, DecodeError, InvalidName, InvalidNumber, InvalidOperation,
                             InvalidRing, InvalidStay, InvalidText, InvalidTick, PartyError, TooEarly, TooManyGuests,
                             TooWide, UnknownGuest)
from shoepile.goings import GoingObserver
from shoepile.habits import Habit, LowHabit, PlanHabit, TurnHabit, chosen_piles, happenings, lifted_with
from shoepile.live import LivePile, Trial
from shoepile.notes import Daybook, chart, format_party, parse_party
from shoepile.parties import Party, all_lifting, calmest_order, change_without
from shoepile.piles import fewest_piles, judge_ring, odd_ring, quiet_count, quiet_guests, two_piles
from shoepile.rounds import Repeated
from tests.live_helpers import course, state
from tests.model import ring_stays

STAYS = (("ann", 0, 5), ("bob", 1, 7), ("cid", 2, 3), ("dan", 2, 6), ("eve", 4, 9))
NAMES = "abcdefghijklmnopqrstuvwx"
OPERATIONS = (("come", "ann", 0), ("come", "bob", 1), ("come", "cid", 0), ("wait", 3), ("go", "ann"), ("wait", 1))
TEXT = "come ann\ncome bob\nwait 3\ngo ? 1\ngo bob ?\ncome ann"
PURE = ("heapq", "math", "itertools", "collections")


def answers(party):
    """What all functions return of a party of ten guests at most."""
    first = party.names[0]
    ring = odd_ring(party)
    return [party.stays, party.names, len(party), party[first], party(first), list(party.crossings()),
            party.pile_at(2), all_lifting(party), change_without(party, first), calmest_order(party).stays,
            two_piles(party), ring, judge_ring(party, ring), fewest_piles(party), quiet_guests(party),
            quiet_count(party.stays)]


def observed():
    """An observer of five guests with two observations."""
    observer = GoingObserver(tuple((name, come) for name, come, _ in STAYS), (5, 6, 7, 8, 9))
    observer.see_lift(0, 1)
    observer.see_guest(3, "ann")
    return observer


def later_answers(observer, repeated, habit):
    """What an observer of five guests, a repeated party with ann and a habit return."""
    party = Party(*STAYS)
    return [observer.records, observer.way_count(), observer.possible_guests(1), observer.find_party(),
            repeated.lifting("ann"), repeated.total(7), repeated.lifting_in("ann", 6, 7), repeated.farthest(),
            habit.pile_count, habit(3, [(5,), (4,)], 6), list(happenings(party, habit)), chosen_piles(party, habit),
            lifted_with(party, habit)]


def last_answers(party, live, daybook):
    """What live piles, texts and codes return of a party, a live pile and a daybook."""
    code = encode_party(party)
    return [*state(live), course(live), format_party(party), parse_party(format_party(party)).stays, chart(party),
            daybook.row_count, daybook.lifted_all, daybook.filled(), state(daybook.finish()),
            daybook.party_of().stays, code, decode_party(list(code)).stays]


def last_three():
    """A party, a live pile of which the last operation was reverted, and a daybook."""
    live = LivePile.replay(2, *OPERATIONS)
    live.undo()
    return Party(*STAYS), live, Daybook(TEXT)


class WholeTest(unittest.TestCase):
    def test_repeated_calls_return_equal_results(self):
        party = Party(*STAYS)
        first = answers(party)
        self.assertEqual(answers(party), first)
        self.assertEqual(answers(Party(*STAYS)), first)

    def test_returned_lists_and_dicts_may_be_modified(self):
        party = Party(*STAYS)
        first = answers(party)
        for value in answers(party):
            if isinstance(value, (list, dict)):
                value.clear()
        self.assertEqual(answers(party), first)
        bipartite = Party(*ring_stays("abcdef"))
        two_piles(bipartite).clear()
        self.assertEqual(len(two_piles(bipartite)), 6)

    def test_arguments_are_not_modified_or_kept(self):
        party = Party(*STAYS)
        ring = ["ann", "bob", "eve"]
        self.assertEqual(judge_ring(party, ring), 3)
        self.assertEqual(ring, ["ann", "bob", "eve"])
        wrong = ["ann", "bob", "bob"]
        self.assertRaises(InvalidRing, judge_ring, party, wrong)
        self.assertEqual(wrong, ["ann", "bob", "bob"])
        given = list(STAYS)
        party = Party(*given)
        given.clear()
        comings = {"ann": 0, "bob": 2}
        evening = Party.evening(3, **comings)
        comings.clear()
        self.assertEqual((party.stays, evening.names), (STAYS, ("ann", "bob")))

    def test_a_call_that_raises_an_error_changes_nothing(self):
        party = Party(*STAYS)
        first = answers(party)
        for error, call in (
            (UnknownGuest, lambda: party["zed"]), (UnknownGuest, lambda: party("zed")),
            (UnknownGuest, lambda: party - "zed"), (InvalidStay, lambda: party + party),
            (InvalidStay, lambda: party >> -1), (InvalidTick, lambda: party.pile_at(-1)),
            (UnknownGuest, lambda: change_without(party, "zed")), (InvalidRing, lambda: judge_ring(party, ["ann"])),
        ):
            with self.assertRaises(error) as caught:
                call()
            self.assertIsInstance(caught.exception, PartyError)
            self.assertEqual(answers(party), first)

    def test_later_parts_return_equal_results_whatever_is_done_to_them(self):
        for kind in (Habit, TurnHabit, LowHabit, PlanHabit):
            told = observed(), Repeated(Party(*STAYS), 5), kind(2)
            first = later_answers(*told)
            for value in later_answers(*told):
                if isinstance(value, (list, dict)):
                    value.clear()
            self.assertEqual(later_answers(*told), first)
            self.assertEqual(later_answers(observed(), Repeated(Party(*STAYS), 5), kind(2)), first)

    def test_later_parts_are_as_before_after_an_error(self):
        observer, repeated, habit = told = observed(), Repeated(Party(*STAYS), 5), TurnHabit(2)
        first = later_answers(*told)
        for error, call in (
            (Contradiction, lambda: observer.see_lift(4, 1)), (Contradiction, lambda: observer.see_guest(2, "ann")),
            (InvalidNumber, lambda: observer.see_lift(5, 0)), (UnknownGuest, lambda: observer.see_guest(2, "zed")),
            (InvalidNumber, lambda: observer.possible_guests(5)), (UnknownGuest, lambda: repeated.lifting("zed")),
            (InvalidNumber, lambda: repeated.total(-1)), (InvalidNumber, lambda: repeated.lifting_in("ann", 7, 7)),
        ):
            with self.assertRaises(error):
                call()
            self.assertEqual(later_answers(*told), first)

    def test_later_parts_do_not_change_parties(self):
        party = Party(*STAYS)
        first = answers(party)
        Repeated(party, 5).total(9)
        list(happenings(party, PlanHabit(3)))
        chosen_piles(party, LowHabit(3))
        self.assertEqual(answers(party), first)

    def test_last_parts_return_equal_results_whatever_is_done_to_them(self):
        told = last_three()
        first = last_answers(*told)
        for value in last_answers(*told):
            if isinstance(value, list):
                value.clear()
        self.assertEqual(last_answers(*told), first)
        self.assertEqual(last_answers(*last_three()), first)

    def test_last_parts_are_as_before_after_an_error(self):
        party, live, daybook = told = last_three()
        first = last_answers(*told)
        for error, call in (
            (InvalidName, lambda: live.come("bob", 7)), (InvalidNumber, lambda: live.come("dan", 2)),
            (UnknownGuest, lambda: live.go("zed")), (InvalidNumber, lambda: live.wait(0)),
            (InvalidOperation, lambda: live.apply(("wait", 1), ("wait",))),
            (TooEarly, lambda: live.apply(("come", "eve", 0), ("go", "eve"))),
            (InvalidStay, lambda: parse_party("ann 5-5")), (InvalidText, lambda: parse_party("ann")),
            (TooWide, lambda: chart(party >> 99)), (DaybookError, lambda: Daybook("wait 0")),
            (DecodeError, lambda: decode_party([])),
        ):
            with self.assertRaises(error) as caught:
                call()
            self.assertIsInstance(caught.exception, PartyError)
            self.assertEqual(last_answers(*told), first)
        again = Daybook(TEXT + "\nwait 1\ngo ann 0")
        for _ in range(2):
            self.assertRaises(InvalidStay, again.party_of)
            self.assertEqual((again.row_count, again.lifted_all), (8, 1))

    def test_last_parts_do_not_keep_their_arguments(self):
        code = encode_party(Party(*STAYS))
        party = decode_party(code)
        code.clear()
        self.assertEqual(party.stays, STAYS)
        operations = list(OPERATIONS)
        live = LivePile.replay(2, *operations)
        operations.clear()
        self.assertEqual(live.history, list(OPERATIONS))

    def test_results_are_integers(self):
        party = Party(*STAYS)
        later = later_answers(observed(), Repeated(party, 5), LowHabit(2))
        for number in (len(party), party("ann"), all_lifting(party), quiet_count(STAYS),
                       judge_ring(party, ["ann", "bob"]), *fewest_piles(party),
                       *two_piles(Party(*STAYS[:2])).values(), later[1], *later[4:10], *later[-2].values(), later[-1]):
            self.assertIs(type(number), int)
        daybook = Daybook(TEXT)
        live = daybook.finish()
        stays = [*daybook.party_of().stays, *parse_party("ann 0-5").stays, *decode_party(encode_party(party)).stays]
        for number in (live.now, live.lifted_pairs, live.come("bob", 0), live.wait(3), daybook.row_count,
                       daybook.lifted_all, *encode_party(party), *[tick for stay in stays for tick in stay[1:]]):
            self.assertIs(type(number), int)

    def test_only_the_package_and_plain_helpers_are_imported(self):
        for path in sorted(pathlib.Path(shoepile.__file__).parent.glob("*.py")):
            for node in ast.walk(ast.parse(path.read_text())):
                self.assertNotIsInstance(node, ast.Import, path)
                if isinstance(node, ast.ImportFrom):
                    self.assertIn(node.module.split(".")[0], ("shoepile", *PURE), path)
                if isinstance(node, ast.Call) and isinstance(node.func, ast.Name):
                    self.assertNotIn(node.func.id, ("open", "input", "print", "exec", "eval", "hash", "id"), path)


def too_long(_number, _frame):
    raise AssertionError("this takes too long")


class ManyGuestsTest(unittest.TestCase):
    """24 guests, 10 observed ones, many rounds: whoever goes through all lists, orders or rounds does not end."""

    def setUp(self):
        before = signal.signal(signal.SIGALRM, too_long)
        self.addCleanup(signal.signal, signal.SIGALRM, before)
        self.addCleanup(signal.alarm, 0)
        signal.alarm(10)

    def test_all_stays_cross(self):
        party = Party(*[(name, place, place + 24) for place, name in enumerate(NAMES)])
        self.assertEqual(all_lifting(party), 24 * 23 // 2)
        self.assertEqual([party(name) for name in NAMES], list(range(23, -1, -1)))
        self.assertEqual(list(change_without(party, "x")), list(NAMES[:-1]))
        self.assertIsNone(two_piles(party))
        self.assertEqual(len(odd_ring(party)), 3)
        self.assertEqual(judge_ring(party, list(NAMES)), 2)
        self.assertEqual(judge_ring(party, list(NAMES[:-1])), 3)
        self.assertEqual((quiet_guests(party), quiet_count(party.stays)), (["a"], 1))
        self.assertRaises(TooManyGuests, fewest_piles, party)

    def test_two_groups_of_twelve(self):
        inner = [(name, place, 100 - place) for place, name in enumerate(NAMES[:12])]
        outer = [(name, 20 + place, 200 - place) for place, name in enumerate(NAMES[12:])]
        party = Party(*inner, *outer)
        self.assertEqual(all_lifting(party), 144)
        self.assertEqual(two_piles(party), {name: int(name > "l") for name in NAMES})
        self.assertIsNone(odd_ring(party))
        self.assertEqual(quiet_guests(party), list(NAMES[:12]))
        self.assertEqual(quiet_guests(Party(*outer, *inner)), list(NAMES[12:]))

    def test_twelve_crossing_pairs(self):
        stays = [(name, 4 * (place // 2) + place % 2, 4 * (place // 2) + place % 2 + 2)
                 for place, name in enumerate(NAMES)]
        party = Party(*stays)
        self.assertEqual((all_lifting(party), quiet_count(party.stays)), (12, 12))
        self.assertEqual(quiet_guests(party), list(NAMES[::2]))
        self.assertEqual(two_piles(party), {name: place % 2 for place, name in enumerate(NAMES)})

    def test_nobody_crosses(self):
        party = Party(*[(name, place, 100 - place) for place, name in enumerate(NAMES)])
        self.assertEqual((all_lifting(party), quiet_count(party.stays)), (0, 24))
        self.assertEqual(quiet_guests(party), list(NAMES))
        self.assertIsNone(odd_ring(party))

    def test_long_rings(self):
        odd = Party(*ring_stays(NAMES[:23]), ("x", 500, 600))
        self.assertEqual(judge_ring(odd, odd_ring(odd)), 3)
        self.assertEqual((len(odd_ring(odd)), quiet_count(odd.stays)), (23, 12))
        even = Party(*ring_stays(NAMES))
        self.assertEqual(odd_ring(even), None)
        self.assertEqual((two_piles(even), quiet_count(even.stays)),
                         ({name: place % 2 for place, name in enumerate(NAMES)}, 12))

    def test_layers_of_crossing_stays(self):
        stays = [(name, 7 * place % 24, 7 * place % 24 + 9) for place, name in enumerate(NAMES)]
        party = Party(*stays)
        chosen = quiet_guests(party)
        self.assertEqual(len(chosen), quiet_count(party.stays))
        self.assertEqual(all_lifting(Party(*[stay for stay in stays if stay[0] in chosen])), 0)
        self.assertEqual(len(chosen), 3)
        self.assertEqual(len(odd_ring(party)), 3)

    def test_ten_observed_guests(self):
        names = list(NAMES[:10])
        for come in (0, 1):
            comings = tuple((name, come * place) for place, name in enumerate(names))
            observer = GoingObserver(comings, tuple(range(10, 20)))
            self.assertEqual(observer.way_count(), 3628800)
            for index in range(10):
                self.assertEqual(observer.possible_guests(index), names)
            self.assertIsNone(observer.find_party())
            self.assertRaises(Contradiction, observer.see_lift, 0, 10)
            self.assertEqual([observer.see_lift(index, 9 - index) for index in (9, 8, 7, 6)],
                             [3628800, 1814400, 604800, 151200])
            self.assertEqual([observer.see_guest(index, names[index]) for index in range(9)],
                             [15120, 1680, 210, 30, 5, 1, 1, 1, 1])
            self.assertEqual([stay[2] for stay in observer.find_party().stays], list(range(10, 20)))

    def test_many_rounds(self):
        most = 10 ** 18
        repeated = Repeated(Party(*[(name, place, place + 24 * 20) for place, name in enumerate(NAMES)]), 24)
        self.assertEqual(repeated.total(most) - repeated.total(most - 1), 24 * 479)
        self.assertEqual([repeated.lifting_in("a", number, most) for number in (0, most // 2, most - 1)],
                         [479, 479, 23])
        self.assertEqual((repeated.lifting("x"), repeated.farthest()), (479, 20))

    def test_ticks_far_apart(self):
        party = Party(*[(name, 4 * 10 ** 7 * place, 10 ** 9) for place, name in enumerate(NAMES)])
        for kind in (Habit, TurnHabit, LowHabit, PlanHabit):
            self.assertEqual(lifted_with(party, kind(3)), 0)
        self.assertEqual(list(chosen_piles(party, LowHabit(9)).values()), [place % 9 for place in range(24)])
        self.assertEqual(set(chosen_piles(party, PlanHabit(9)).values()), {0})

    def test_a_long_live_pile(self):
        live = LivePile(piles=9)
        for turn in range(1000):
            live.apply(("come", NAMES[turn % 24], turn % 9), ("wait", 1), ("go", NAMES[turn % 24]))
        with Trial(live):
            while live.undo():
                pass
            self.assertEqual((live.now, live.departed), (0, []))
        self.assertEqual((live.now, len(live.departed), len(live.history)), (1000, 1000, 3000))

    def test_most_guests_in_texts_and_codes(self):
        party = Party(*[(name, place, 10 ** 9 - place) for place, name in enumerate(NAMES)])
        self.assertEqual(parse_party(format_party(party)), party)
        self.assertEqual(decode_party(encode_party(party)), party)
        rows = [f"come {name}" for name in NAMES] + ["wait 9"] + [f"go ? {pairs}" for pairs in range(23, -1, -1)]
        self.assertEqual((Daybook("\n".join(rows)).lifted_all, Daybook("\n".join(rows)).party_of().names),
                         (24 * 23 // 2, tuple(NAMES)))
