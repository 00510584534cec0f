"""The examples of the interface, as printed there."""

import unittest

from shoepile.errors import PartyError

PARTIES = r"""
>>> from shoepile.parties import Party
>>> party = Party(("ann", 0, 5), ("bob", 1, 7), ("cid", 2, 3))
>>> [len(party), party["bob"], party("ann"), party("bob"), (party - "cid" >> 10).stays]
[3, (1, 7), 1, 0, (('ann', 10, 15), ('bob', 11, 17))]

>>> from shoepile.parties import Party
>>> Party(("ann", 0, 5), ("bob", 5, 5))
raises InvalidStay(index=1)

>>> from shoepile.parties import Party
>>> party = Party(("ann", 0, 5), ("bob", 1, 7), ("cid", 2, 3))
>>> [list(party.crossings()), party.pile_at(2), party.pile_at(3), party.pile_at(5)]
[[('ann', 'bob')], ['ann', 'bob', 'cid'], ['ann', 'bob'], ['bob']]

>>> from shoepile.parties import Party
>>> Party.evening(4, ann=0, bob=2).stays
(('ann', 0, 4), ('bob', 2, 6))

>>> from shoepile.parties import Party
>>> from shoepile.parties import all_lifting, calmest_order, change_without
>>> party = Party(("ann", 0, 5), ("bob", 1, 7), ("cid", 2, 3))
>>> [all_lifting(party), change_without(party, "bob"), calmest_order(Party(("a", 0, 3), ("b", 0, 5))).names]
[1, {'ann': (1, 0)}, ('b', 'a')]
"""

PILES = r"""
>>> from shoepile.parties import Party
>>> from shoepile.piles import judge_ring, odd_ring, two_piles
>>> party = Party(("ann", 0, 5), ("bob", 1, 7), ("cid", 2, 3))
>>> [two_piles(party), odd_ring(party), judge_ring(party, ["ann", "bob"])]
[{'ann': 0, 'bob': 1, 'cid': 0}, None, 2]

>>> from shoepile.parties import Party
>>> from shoepile.piles import judge_ring, odd_ring, two_piles
>>> party = Party(("a", 0, 4), ("b", 1, 5), ("c", 2, 6))
>>> [two_piles(party), sorted(odd_ring(party)), judge_ring(party, ["a", "b", "c"])]
[None, ['a', 'b', 'c'], 3]

>>> from shoepile.parties import Party
>>> from shoepile.piles import judge_ring
>>> party = Party(("ann", 0, 5), ("bob", 1, 7), ("cid", 2, 3))
>>> judge_ring(party, ["ann", "cid"])
raises InvalidRing(index=1)

>>> from shoepile.parties import Party
>>> from shoepile.piles import fewest_piles, quiet_count, quiet_guests
>>> party = Party(("ann", 0, 5), ("bob", 1, 7), ("cid", 2, 3))
>>> [fewest_piles(party), quiet_guests(party), quiet_count(party.stays)]
[[0, 1, 0], ['ann', 'cid'], 2]

>>> from shoepile.parties import Party
>>> from shoepile.piles import fewest_piles, quiet_guests
>>> party = Party(("a", 0, 4), ("b", 1, 5), ("c", 2, 6))
>>> [fewest_piles(party), quiet_guests(party)]
[[0, 1, 2], ['a']]
"""

GOINGS = r"""
>>> from shoepile.goings import GoingObserver
>>> observer = GoingObserver((("ann", 0), ("bob", 1), ("cid", 2)), (3, 5, 7))
>>> [observer.way_count(), observer.see_lift(0, 0), observer.possible_guests(1), observer.see_guest(1, "ann"), observer.find_party().stays]
[6, 2, ['ann', 'bob'], 1, (('ann', 0, 5), ('bob', 1, 7), ('cid', 2, 3))]

>>> from shoepile.goings import GoingObserver
>>> GoingObserver((("ann", 0), ("bob", 3)), (2, 3))
raises InvalidGoings(index=1)
"""

ROUNDS = r"""
>>> from shoepile.parties import Party
>>> from shoepile.rounds import Repeated
>>> repeated = Repeated(Party(("ann", 0, 5), ("bob", 1, 7)), 4)
>>> [repeated.lifting("ann"), repeated.total(10 ** 18), repeated.lifting_in("ann", 0, 1), repeated.farthest()]
[2, 3999999999999999997, 1, 1]

>>> from shoepile.parties import Party
>>> from shoepile.rounds import Repeated
>>> Repeated(Party(("ann", 0, 5), ("bob", 4, 7)), 4)
raises InvalidPeriod
"""

HABITS = r"""
>>> from shoepile.habits import PlanHabit, TurnHabit
>>> [PlanHabit(2)(0, [(5,), ()], 7), TurnHabit(2)(5, [(), ()], 7), TurnHabit(2).pile_count]
[1, 1, 2]

>>> from shoepile.habits import LowHabit
>>> LowHabit(10)
raises InvalidNumber

>>> from shoepile.parties import Party
>>> from shoepile.habits import TurnHabit, happenings
>>> party = Party(("ann", 0, 5), ("bob", 1, 7), ("cid", 2, 3))
>>> list(happenings(party, TurnHabit(2)))
[('come', 'ann', 0), ('come', 'bob', 1), ('come', 'cid', 0), ('go', 'cid', 0), ('go', 'ann', 0), ('go', 'bob', 0)]

>>> from shoepile.parties import Party
>>> from shoepile.habits import Habit, LowHabit, chosen_piles, lifted_with
>>> party = Party(("ann", 0, 5), ("bob", 1, 7), ("cid", 2, 3))
>>> [chosen_piles(party, LowHabit(2)), lifted_with(party, LowHabit(2)), lifted_with(party, Habit(2))]
[{'ann': 0, 'bob': 1, 'cid': 0}, 0, 1]
"""

LIVE = r"""
>>> from shoepile.live import LivePile
>>> live = LivePile()
>>> [live.come("ann", 0), live.come("bob", 0), live.standing]
[1, 2, [('ann', 'bob')]]

>>> from shoepile.live import LivePile
>>> live = LivePile()
>>> [live.wait(3), live.now]
[3, 3]

>>> from shoepile.live import LivePile
>>> live = LivePile.replay(1, ("come", "ann", 0), ("come", "bob", 0), ("wait", 1))
>>> [live.go("ann"), live.lifted_pairs, live.departed]
[['bob'], 1, [('ann', 0, 1)]]

>>> from shoepile.live import LivePile
>>> live = LivePile.replay(1, ("come", "ann", 0))
>>> live.go("ann")
raises TooEarly

>>> from shoepile.live import LivePile
>>> live = LivePile.replay(1, ("wait", 4))
>>> [live.undo(), live.undo(), live.redo(), live.now]
[True, False, True, 4]

>>> from shoepile.live import LivePile
>>> live = LivePile()
>>> live.apply(("come", "ann", 0), ("wait", 2), ("go", "ann"))
[1, 2, []]

>>> from shoepile.live import LivePile
>>> live = LivePile()
>>> live.apply(("wait", 2), ("come", "ann"))
raises InvalidOperation(index=1)

>>> from shoepile.live import LivePile
>>> LivePile.replay(2, ("come", "ann", 1)).standing
[(), ('ann',)]
"""

NOTES = r"""
>>> from shoepile.parties import Party
>>> from shoepile.notes import format_party
>>> party = Party(("ann", 0, 5), ("bob", 1, 7), ("cid", 2, 3))
>>> format_party(party)
'ann 0-5\nbob 1-7\ncid 2-3'

>>> from shoepile.notes import parse_party
>>> parse_party("ann 0-5").stays
(('ann', 0, 5),)

>>> from shoepile.notes import parse_party
>>> parse_party("ann 0-05")
raises InvalidText(row=0)

>>> from shoepile.parties import Party
>>> from shoepile.notes import chart
>>> chart(Party(("ann", 0, 3), ("bob", 1, 4)))
'ann     ===..   1\nbob     .===.   0'

>>> from shoepile.notes import Daybook
>>> daybook = Daybook("come ann\nwait 2\ncome bob\nwait 1\ngo ? 1")
>>> [daybook.row_count, daybook.lifted_all]
[5, 1]

>>> from shoepile.notes import Daybook
>>> Daybook("come ann\nwait 1\ngo ann 1")
raises DaybookError(row=2)

>>> from shoepile.notes import Daybook
>>> daybook = Daybook("come ann\nwait 2\ncome bob\nwait 1\ngo ? 1")
>>> daybook.filled()
'come ann\nwait 2\ncome bob\nwait 1\ngo ann 1'

>>> from shoepile.notes import Daybook
>>> daybook = Daybook("come ann\nwait 2\ncome bob\nwait 1\ngo ? 1")
>>> live = daybook.finish()
>>> [live.standing, live.now]
[[('bob',)], 3]

>>> from shoepile.notes import Daybook
>>> daybook = Daybook("come ann\nwait 2\ncome bob\nwait 1\ngo ? 1")
>>> daybook.party_of().stays
(('ann', 0, 3),)
"""

CODES = r"""
>>> from shoepile.parties import Party
>>> from shoepile.codes import encode_party
>>> encode_party(Party(("ab", 1, 4)))
[115, 1, 2, 1, 2, 1, 4, 423]

>>> from shoepile.codes import decode_party
>>> decode_party([115, 1, 2, 1, 2, 1, 4, 423]).stays
(('ab', 1, 4),)

>>> from shoepile.codes import decode_party
>>> decode_party([115, 1, 9])
raises DecodeError(offset=2)
"""


def told(lines):
    """What an example gives: the value of its last line, or the error that it raises."""
    names = {}
    try:
        for line in lines[:-1]:
            exec(line, names)
        return repr(eval(lines[-1], names))
    except PartyError as error:
        details = ", ".join(f"{key}={value!r}" for key, value in vars(error).items())
        return f"raises {type(error).__name__}" + (f"({details})" if details else "")


class ExamplesTest(unittest.TestCase):
    def check(self, text, many):
        examples = text.strip().split("\n\n")
        self.assertEqual(len(examples), many)
        for example in examples:
            *lines, expected = example.split("\n")
            with self.subTest(example):
                self.assertEqual(told([line.removeprefix(">>> ") for line in lines]), expected)

    def test_parties(self):
        self.check(PARTIES, 5)

    def test_piles(self):
        self.check(PILES, 5)

    def test_goings(self):
        self.check(GOINGS, 2)

    def test_rounds(self):
        self.check(ROUNDS, 2)

    def test_habits(self):
        self.check(HABITS, 4)

    def test_live(self):
        self.check(LIVE, 8)

    def test_notes(self):
        self.check(NOTES, 9)

    def test_codes(self):
        self.check(CODES, 3)
