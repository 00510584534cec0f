"""Who went when, if it was seen when somebody went, but not who."""

from shoepile.errors import Contradiction, InvalidGoings, InvalidNumber, InvalidStay, TooManyGuests, UnknownGuest
from shoepile.parties import Party
from shoepile.stays import LAST_TICK, bottom_up, is_name, is_within

MOST_GUESTS = 10


def _check_comings(comings):
    if len(comings) > MOST_GUESTS:
        raise TooManyGuests(f"there are more than {MOST_GUESTS} guests")
    names = []
    for index, (name, come) in enumerate(comings):
        if name in names or not is_name(name) or not is_within(come, 0, LAST_TICK - 1):
            raise InvalidStay(index=index)
        names.append(name)


def _check_goings(comings, goings):
    earliest = 0
    for index, tick in enumerate(goings):
        arrived = [name for name, come in comings if come < tick]
        # As many guests as the index tells have gone before, so somebody else has to be there.
        if not is_within(tick, earliest, LAST_TICK) or len(arrived) <= index:
            raise InvalidGoings(index=index)
        earliest = tick + 1
    # One going too many has been found above: nobody is left who could go then.
    if len(goings) < len(comings):
        raise InvalidGoings(index=len(goings))


def _after_going(piles, seen):
    """Return the piles that can lie there after one more going, told as `piles` are.

    `piles` is a dict from each pile, a tuple of names, to the number of ways that lead to it and one of them.
    """
    after = {}
    for pile, (ways, way) in piles.items():
        for place, name in enumerate(pile):
            facts = {"guest": name, "lift": len(pile) - place - 1}
            if all([facts[kind] == fact for kind, fact in seen]):
                rest = pile[:place] + pile[place + 1:]
                after[rest] = (after.get(rest, (0, ()))[0] + ways, (*way, name))
    return after


def _ways_to_go(comings, goings, records):
    """Return in how many ways all can have gone, and one of them: the names in the order of going."""
    piles = {(): (1, ())}
    before = 0
    for index, tick in enumerate(goings):
        came = tuple([name for name, come in bottom_up(comings) if before <= come < tick])
        piles = {pile + came: told for pile, told in piles.items()}
        # A dict, as the same may have been seen many times.
        seen = {(kind, fact): True for kind, at, fact in records if at == index}
        piles = _after_going(piles, seen)
        before = tick
    return piles.get((), (0, ()))


class GoingObserver:
    """Knows when guests came and when somebody went, and finds out who."""

    def __init__(self, comings, goings):
        _check_comings(comings)
        _check_goings(comings, goings)
        self._comings = comings
        self._goings = goings
        self._accepted = []

    @property
    def records(self):
        """The list of all accepted observations."""
        return list(self._accepted)

    def _check_index(self, index):
        if not is_within(index, 0, len(self._goings) - 1):
            raise InvalidNumber(f"there is no going {index}")

    def _names(self):
        return [name for name, come in self._comings]

    def _ways_with(self, record):
        return _ways_to_go(self._comings, self._goings, [*self._accepted, record])[0]

    def _accept(self, record):
        ways = self._ways_with(record)
        if ways == 0:
            raise Contradiction("nobody can have gone like this")
        self._accepted.append(record)
        return ways

    def see_lift(self, index, count):
        """Record how many pairs were lifted at a going, and return how many ways remain."""
        self._check_index(index)
        return self._accept(("lift", index, count))

    def see_guest(self, index, name):
        """Record who went at a going, and return how many ways remain."""
        self._check_index(index)
        if name not in self._names():
            raise UnknownGuest(name=name)
        return self._accept(("guest", index, name))

    def way_count(self):
        """Return in how many ways all guests can have gone."""
        return _ways_to_go(self._comings, self._goings, self._accepted)[0]

    def possible_guests(self, index):
        """Return the ascending list of all who can have gone at a going."""
        self._check_index(index)
        return [name for name in sorted(self._names()) if self._ways_with(("guest", index, name)) > 0]

    def find_party(self):
        """Return the party if only one way remains, or None."""
        ways, way = _ways_to_go(self._comings, self._goings, self._accepted)
        if ways > 1:
            return None
        ticks = dict(zip(way, self._goings))
        stays = [(name, come, ticks[name]) for name, come in self._comings]
        return Party(*stays)
