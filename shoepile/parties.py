"""Parties, and what is lifted at them with one pile."""

from shoepile.errors import InvalidStay, InvalidTick, UnknownGuest
from shoepile.stays import bottom_up, is_stay, is_tick, lifted_from


def _check_stays(stays, most):
    names = []
    for index, (name, come, go) in enumerate(stays):
        if index == most or name in names or not is_stay(name, come, go):
            raise InvalidStay(index=index)
        names.append(name)


class Party:
    """A list of stays, which never changes."""

    MAX_GUESTS = 24

    def __init__(self, *stays):
        _check_stays(stays, self.MAX_GUESTS)
        self._stays = stays

    @classmethod
    def evening(cls, length, **comings):
        """Return the party of guests who all stay for the same number of ticks."""
        stays = [(name, come, come + length) for name, come in comings.items()]
        return cls(*stays)

    @property
    def stays(self):
        """The tuple of the stays."""
        return self._stays

    @property
    def names(self):
        """The tuple of the names."""
        return tuple([name for name, come, go in self._stays])

    def _stay_of(self, name):
        for stay in self._stays:
            if stay[0] == name:
                return stay
        raise UnknownGuest(name=name)

    def __len__(self):
        return len(self._stays)

    def __bool__(self):
        return bool(self._stays)

    def __contains__(self, name):
        return name in self.names

    def __getitem__(self, name):
        return self._stay_of(name)[1:]

    # Without this, Python would ask for the items 0, 1 and so on.
    def __iter__(self):
        raise TypeError("a party cannot be iterated over")

    def __eq__(self, other):
        return isinstance(other, Party) and self._stays == other._stays

    def __sub__(self, name):
        gone = self._stay_of(name)
        stays = [stay for stay in self._stays if stay != gone]
        return Party(*stays)

    def __add__(self, other):
        stays = self._stays + other._stays
        return Party(*stays)

    def __rshift__(self, ticks):
        stays = [(name, come + ticks, go + ticks) for name, come, go in self._stays]
        return Party(*stays)

    def __call__(self, name):
        """Return how many pairs a guest lifts."""
        return len(lifted_from(self._stays, self._stay_of(name)))

    def crossings(self):
        """Yield (guest, guest whose shoes are lifted) in the order of lifting."""
        from_top = bottom_up(self._stays)[::-1]
        # Sorting keeps those first who lie higher, of all who go in the same tick.
        for taker in sorted(from_top, key=lambda stay: stay[2]):
            for stay in lifted_from(self._stays, taker):
                yield taker[0], stay[0]

    def pile_at(self, tick):
        """Return the guests whose shoes lie on the pile after a tick, from the bottom up."""
        if not is_tick(tick):
            raise InvalidTick(f"{tick} is not a tick")
        return [name for name, come, go in bottom_up(self._stays) if come <= tick < go]


def all_lifting(party):
    """Return how many pairs are lifted in all."""
    return len(list(party.crossings()))


def change_without(party, name):
    """Return who lifts fewer pairs without a guest, with the numbers with and without them."""
    smaller = party - name
    changes = {}
    for other in smaller.names:
        before, after = party(other), smaller(other)
        if after < before:
            changes[other] = (before, after)
    return changes


def calmest_order(party):
    """Return the party in the order in which guests who come together lift as little as possible."""
    stays = sorted(party.stays, key=lambda stay: (stay[1], -stay[2]))
    return Party(*stays)
