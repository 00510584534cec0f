"""How many piles are needed so that nobody lifts anything."""

from shoepile.errors import InvalidRing, TooManyGuests
from shoepile.stays import bottom_up

MOST_GUESTS = 10


def _crossing_names(party):
    """Return a dict from each guest to the list of those whose stays cross theirs."""
    crossing = {name: [] for name in party.names}
    for one, other in party.crossings():
        crossing[one].append(other)
        crossing[other].append(one)
    return crossing


def _piles_from(crossing, start):
    """Return piles 0 and 1, by turns, for all who are connected to a guest, who uses pile 0."""
    piles = {start: 0}
    waiting = [start]
    while waiting:
        name = waiting.pop()
        for other in crossing[name]:
            if other not in piles:
                piles[other] = 1 - piles[name]
                waiting.append(other)
    return piles


def two_piles(party):
    """Return the pile, 0 or 1, of each guest so that nobody lifts anything, or None."""
    crossing = _crossing_names(party)
    piles = {}
    for name in party.names:
        if name not in piles:
            piles.update(_piles_from(crossing, name))
    if any([piles[one] == piles[other] for one, other in party.crossings()]):
        return None
    return {name: piles[name] for name in party.names}


def _odd_walk(crossing, start):
    """Return a shortest walk of an odd number of steps that ends where it started, or None."""
    walks = {(start, 0): []}
    reached = [(start, 0)]
    while reached:
        further = []
        for name, odd in reached:
            for other in crossing[name]:
                if (other, 1 - odd) not in walks:
                    walks[(other, 1 - odd)] = [*walks[(name, odd)], other]
                    further.append((other, 1 - odd))
        reached = further
    return walks.get((start, 1))


def odd_ring(party):
    """Return a shortest ring of an odd number of guests with crossing stays, or None."""
    crossing = _crossing_names(party)
    walks = [_odd_walk(crossing, name) for name in party.names]
    # A shortest odd walk of all meets nobody twice: else a part of it would be a shorter one.
    return min([walk for walk in walks if walk is not None], key=len, default=None)


def judge_ring(party, names):
    """Return how many piles, 2 or 3, a ring of guests shows to be needed."""
    crossing = _crossing_names(party)
    for index, name in enumerate(names):
        if name not in crossing or name in names[:index]:
            raise InvalidRing(index=index)
        if index > 0 and name not in crossing[names[index - 1]]:
            raise InvalidRing(index=index)
    if len(names) < 2 or names[0] not in crossing[names[-1]]:
        raise InvalidRing(index=len(names))
    return 2 + len(names) % 2


def _first_piles(earlier, count, piles):
    """Return the first list that begins with `piles` and uses so many piles at most, or None.

    `earlier` has, for each guest, the places of those before them whose stays cross theirs.
    """
    if len(piles) == len(earlier):
        return piles
    taken = [piles[place] for place in earlier[len(piles)]]
    # A pile beyond the first unused one does not come in the first list.
    for pile in range(min(count, max(piles, default=-1) + 2)):
        if pile not in taken:
            found = _first_piles(earlier, count, [*piles, pile])
            if found is not None:
                return found
    return None


def fewest_piles(party):
    """Return the first list of piles of those with the fewest with which nobody lifts anything."""
    if len(party) > MOST_GUESTS:
        raise TooManyGuests(f"there are more than {MOST_GUESTS} guests")
    crossing = _crossing_names(party)
    names = list(party.names)
    earlier = [[names.index(other) for other in names[:place] if other in crossing[name]]
               for place, name in enumerate(names)]
    count = 0
    piles = _first_piles(earlier, count, [])
    while piles is None:
        count += 1
        piles = _first_piles(earlier, count, [])
    return piles


def _goings_by_event(stays):
    """Return, for all comings and goings in order, at which place in it the guest goes.

    For a going it is -1, so before all places.
    """
    pile = bottom_up(stays)
    comings = [(come, 1, place) for place, (name, come, go) in enumerate(pile)]
    goings = [(go, 0, -place) for place, (name, come, go) in enumerate(pile)]
    events = sorted(comings + goings)
    return [events.index(goings[place]) if coming == 1 else -1 for tick, coming, place in events]


def quiet_count(stays):
    """Return how many guests are in a greatest list of whom nobody lifts anything."""
    goings = _goings_by_event(stays)
    many = len(goings)
    # most[first][end] is the answer for the guests who come and go within range(first, end).
    most = [[0] * (many + 1) for _ in range(many + 1)]
    for first in reversed(range(many)):
        going = goings[first]
        for end in range(first + 1, many + 1):
            most[first][end] = most[first + 1][end]
            if first < going < end:
                joined = 1 + most[first + 1][going] + most[going + 1][end]
                most[first][end] = max(joined, most[first + 1][end])
    return most[0][many]


def quiet_guests(party):
    """Return the first greatest list of guests of whom nobody lifts anything."""
    crossing = _crossing_names(party)
    many = quiet_count(party.stays)
    chosen = []
    rest = list(party.stays)
    while rest:
        first, *later = rest
        fitting = [stay for stay in later if stay[0] not in crossing[first[0]]]
        if len(chosen) + 1 + quiet_count(tuple(fitting)) == many:
            chosen.append(first[0])
            rest = fitting
        else:
            rest = later
    return chosen
