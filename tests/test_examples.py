"""The examples of the interface, as printed there."""

import unittest

from shoepile.errors import PartyError

PARTIES = r"""
>>> from shoepile.parties import Party
>>> party = Party(("ann", 0, 5), ("bob", 1, 7), ("cid", 2, 3))
>>> [len(party), party["bob"], party("ann"), party("bob"), (party - "cid" >> 10).stays]
[3, (1, 7), 1, 0, (('ann', 10, 15), ('bob', 11, 17))]

>>> from shoepile.parties import Party
>>> Party(("ann", 0, 5), ("bob", 5, 5))
raises InvalidStay(index=1)

>>> from shoepile.parties import Party
>>> party = Party(("ann", 0, 5), ("bob", 1, 7), ("cid", 2, 3))
>>> [list(party.crossings()), party.pile_at(2), party.pile_at(3), party.pile_at(5)]
[[('ann', 'bob')], ['ann', 'bob', 'cid'], ['ann', 'bob'], ['bob']]

>>> from shoepile.parties import Party
>>> Party.evening(4, ann=0, bob=2).stays
(('ann', 0, 4), ('bob', 2, 6))

>>> from shoepile.parties import Party
>>> from shoepile.parties import all_lifting, calmest_order, change_without
>>> party = Party(("ann", 0, 5), ("bob", 1, 7), ("cid", 2, 3))
>>> [all_lifting(party), change_without(party, "bob"), calmest_order(Party(("a", 0, 3), ("b", 0, 5))).names]
[1, {'ann': (1, 0)}, ('b', 'a')]
"""

PILES = r"""
>>> from shoepile.parties import Party
>>> from shoepile.piles import judge_ring, odd_ring, two_piles
>>> party = Party(("ann", 0, 5), ("bob", 1, 7), ("cid", 2, 3))
>>> [two_piles(party), odd_ring(party), judge_ring(party, ["ann", "bob"])]
[{'ann': 0, 'bob': 1, 'cid': 0}, None, 2]

>>> from shoepile.parties import Party
>>> from shoepile.piles import judge_ring, odd_ring, two_piles
>>> party = Party(("a", 0, 4), ("b", 1, 5), ("c", 2, 6))
>>> [two_piles(party), sorted(odd_ring(party)), judge_ring(party, ["a", "b", "c"])]
[None, ['a', 'b', 'c'], 3]

>>> from shoepile.parties import Party
>>> from shoepile.piles import judge_ring
>>> party = Party(("ann", 0, 5), ("bob", 1, 7), ("cid", 2, 3))
>>> judge_ring(party, ["ann", "cid"])
raises InvalidRing(index=1)

>>> from shoepile.parties import Party
>>> from shoepile.piles import fewest_piles, quiet_count, quiet_guests
>>> party = Party(("ann", 0, 5), ("bob", 1, 7), ("cid", 2, 3))
>>> [fewest_piles(party), quiet_guests(party), quiet_count(party.stays)]
[[0, 1, 0], ['ann', 'cid'], 2]

>>> from shoepile.parties import Party
>>> from shoepile.piles import fewest_piles, quiet_guests
>>> party = Party(("a", 0, 4), ("b", 1, 5), ("c", 2, 6))
>>> [fewest_piles(party), quiet_guests(party)]
[[0, 1, 2], ['a']]
"""


def told(lines):
    """What an example gives: the value of its last line, or the error that it raises."""
    names = {}
    try:
        for line in lines[:-1]:
            exec(line, names)
        return repr(eval(lines[-1], names))
    except PartyError as error:
        details = ", ".join(f"{key}={value!r}" for key, value in vars(error).items())
        return f"raises {type(error).__name__}" + (f"({details})" if details else "")


class ExamplesTest(unittest.TestCase):
    def check(self, text, many):
        examples = text.strip().split("\n\n")
        self.assertEqual(len(examples), many)
        for example in examples:
            *lines, expected = example.split("\n")
            with self.subTest(example):
                self.assertEqual(told([line.removeprefix(">>> ") for line in lines]), expected)

    def test_parties(self):
        self.check(PARTIES, 5)

    def test_piles(self):
        self.check(PILES, 5)
