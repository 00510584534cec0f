"""Piles that are used step by step, with operations that can be reverted and tried."""

from shoepile.errors import InvalidName, InvalidNumber, InvalidOperation, TooEarly, UnknownGuest
from shoepile.habits import check_pile_count
from shoepile.stays import LAST_TICK, is_name, is_within


class Moment:
    """How everything is after an operation; a moment never changes.

    `lying` has a tuple for each pile, of tuples (name, tick of coming), from the bottom up; `lifted` is how many
    pairs have been lifted since the start, and `ended` the stay that the operation ended, or None.
    """

    def __init__(self, operation, tick, lying, lifted, ended):
        self.operation = operation
        self.tick = tick
        self.lying = lying
        self.lifted = lifted
        self.ended = ended


def _is_there(moment, name):
    return any([name == guest for pile in moment.lying for guest, come in pile])


def _with_pile(lying, number, pile):
    """Return the piles with another one in the place of the one with a number."""
    return (*lying[:number], pile, *lying[number + 1:])


def _after_come(moment, name, number):
    """Return the moment after somebody has come, and how many pairs lie on their pile then."""
    if not is_name(name) or _is_there(moment, name):
        raise InvalidName(f"{name} cannot come")
    if not is_within(number, 0, len(moment.lying) - 1):
        raise InvalidNumber(f"there is no pile {number}")
    pile = (*moment.lying[number], (name, moment.tick))
    lying = _with_pile(moment.lying, number, pile)
    return Moment(("come", name, number), moment.tick, lying, moment.lifted, None), len(pile)


def _place_of(moment, name):
    """Return the number of a guest's pile and the place of their shoes there, from the bottom."""
    for number, pile in enumerate(moment.lying):
        for place, (guest, come) in enumerate(pile):
            if guest == name:
                return number, place
    raise UnknownGuest(name=name)


def _after_go(moment, name):
    """Return the moment after somebody has gone, and whose shoes they have lifted, from the top down."""
    number, place = _place_of(moment, name)
    pile = moment.lying[number]
    come = pile[place][1]
    if come == moment.tick:
        raise TooEarly(f"{name} came in this very tick")
    above = [guest for guest, tick in pile[:place:-1]]
    lying = _with_pile(moment.lying, number, pile[:place] + pile[place + 1:])
    stay = (name, come, moment.tick)
    return Moment(("go", name), moment.tick, lying, moment.lifted + len(above), stay), above


def _after_wait(moment, ticks):
    """Return the moment after so many ticks have passed, and its tick."""
    if not is_within(ticks, 1, LAST_TICK - moment.tick):
        raise InvalidNumber(f"{ticks} ticks cannot pass")
    tick = moment.tick + ticks
    return Moment(("wait", ticks), tick, moment.lying, moment.lifted, None), tick


ACTIONS = {"come": _after_come, "go": _after_go, "wait": _after_wait}
ITEM_COUNTS = {"come": 3, "go": 2, "wait": 2}


def _check_operations(operations):
    for index, operation in enumerate(operations):
        if len(operation) == 0 or ITEM_COUNTS.get(operation[0]) != len(operation):
            raise InvalidOperation(index=index)


def _after(moment, operation):
    """Return the moment after an operation, and the result of the operation."""
    word, *details = operation
    action = ACTIONS[word]
    return action(moment, *details)


class LivePile:
    """Piles that are used step by step, from tick 0 on."""

    def __init__(self, *, piles=1):
        check_pile_count(piles)
        lying = tuple([() for _ in range(piles)])
        # Moments that were reverted stay behind the present one, so that they can be performed again.
        self._moments = [Moment((), 0, lying, 0, None)]
        self._present = 0

    @classmethod
    def replay(cls, piles, *operations):
        """Return a live pile after operations."""
        live = cls(piles=piles)
        live.apply(*operations)
        return live

    def _moment(self):
        return self._moments[self._present]

    def _moments_in_effect(self):
        return self._moments[1:self._present + 1]

    @property
    def now(self):
        """The present tick."""
        return self._moment().tick

    @property
    def lifted_pairs(self):
        """How many pairs have been lifted."""
        return self._moment().lifted

    @property
    def standing(self):
        """The list with a tuple of the guests for each pile, from the bottom up."""
        return [tuple([name for name, come in pile]) for pile in self._moment().lying]

    @property
    def departed(self):
        """The list of the stays of all who have gone, in the order of going."""
        return [moment.ended for moment in self._moments_in_effect() if moment.ended is not None]

    @property
    def history(self):
        """The list of the operations in effect, in order."""
        return [moment.operation for moment in self._moments_in_effect()]

    def come(self, name, pile):
        """Put the shoes of a guest on a pile, and return how many pairs lie there then."""
        return self.apply(("come", name, pile))[0]

    def go(self, name):
        """Take a guest's shoes out, and return the list of the guests whose shoes are lifted."""
        return self.apply(("go", name))[0]

    def wait(self, ticks):
        """Let ticks pass, and return the present tick."""
        return self.apply(("wait", ticks))[0]

    def undo(self):
        """Revert the last operation in effect, and return whether there is one."""
        if self._present == 0:
            return False
        self._present -= 1
        return True

    def redo(self):
        """Perform the operation again that was reverted last, and return whether there is one."""
        if self._present == len(self._moments) - 1:
            return False
        self._present += 1
        return True

    def apply(self, *operations):
        """Perform all operations, or none if one raises an error, and return the list of their results."""
        _check_operations(operations)
        moment, later, results = self._moment(), [], []
        for operation in operations:
            moment, result = _after(moment, operation)
            later.append(moment)
            results.append(result)
        # Without an operation, what was reverted can still be performed again.
        if operations:
            self._moments[self._present + 1:] = later
            self._present += len(later)
        return results


class Trial:
    """Brings a live pile back, at the end of a block, to what it was at its beginning."""

    def __init__(self, live):
        self._live = live
        self._moments = []
        self._present = 0

    def __enter__(self):
        # A copy, as operations change the list.
        self._moments = list(self._live._moments)
        self._present = self._live._present
        return self._live

    def __exit__(self, kind, value, trace):
        live = self._live
        live._moments = self._moments
        live._present = self._present
