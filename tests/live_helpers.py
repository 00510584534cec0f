"""What the tests of live piles share."""

import random
import unittest

from shoepile.errors import PartyError

LAST = 10 ** 9
WRONG_NAMES = ("", "abcdefghi", "Ann", "a b", "a1", "a-b", "?", "ann\n", "\u00e9", "\u0430")


def state(live):
    """All that the properties of a live pile tell."""
    return live.now, live.lifted_pairs, live.standing, live.departed, live.history


def course(live):
    """All states from the start on to which undo and redo lead, and the place of the present one among them."""
    ahead = 0
    while live.redo():
        ahead += 1
    states = [state(live)]
    while live.undo():
        states.append(state(live))
    present = len(states) - 1 - ahead
    for _ in range(present):
        live.redo()
    return states[::-1], present


def random_operation(source, piles):
    """An operation that often can be performed, and sometimes cannot."""
    name = source.choice(("ann", "bob", "cid", "dan", "eve", "Ann", "zoe"))
    word = source.choice(("come", "come", "go", "wait"))
    if word == "come":
        return word, name, source.randrange(-1, piles + 1) if source.random() < 0.2 else source.randrange(piles)
    if word == "go":
        return word, name
    return word, source.choice((1, 1, 2, 5, 0)) if source.random() < 0.95 else LAST - source.randrange(3)


def operations_of(seed, many, piles):
    source = random.Random(seed)
    return [random_operation(source, piles) for _ in range(many)]


class LiveCase(unittest.TestCase):
    def refuses(self, error, live, call, *arguments, **attributes):
        """The call raises just this error with these attributes, and the live pile is as before."""
        before = course(live)
        with self.assertRaises(PartyError) as caught:
            call(*arguments)
        self.assertIs(type(caught.exception), error)
        self.assertEqual(vars(caught.exception), attributes)
        self.assertEqual(course(live), before)
