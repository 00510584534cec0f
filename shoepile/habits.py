"""Habits, by which guests choose one of several piles, and what happens with them."""

from shoepile.errors import InvalidNumber
from shoepile.stays import bottom_up, is_within, lifted_from

MOST_PILES = 9


def check_pile_count(count):
    """Raise InvalidNumber for a number of piles that there cannot be."""
    if not is_within(count, 1, MOST_PILES):
        raise InvalidNumber(f"{count} is no number of piles")


def _first_least(numbers):
    """Return the first place of a least number."""
    return numbers.index(min(numbers))


class Habit:
    """Says which pile a guest uses: always pile 0."""

    KIND = "first"

    def __init__(self, count):
        check_pile_count(count)
        self._pile_count = count

    @property
    def pile_count(self):
        """The number of piles."""
        return self._pile_count

    def __call__(self, number, piles, go):
        """Return the pile of the guest with a number, who goes in a tick."""
        return 0


class TurnHabit(Habit):
    """Guests use the piles in turn."""

    KIND = "turn"

    def __call__(self, number, piles, go):
        """Return the pile of the guest with a number, who goes in a tick."""
        return number % self.pile_count


class LowHabit(Habit):
    """Guests use the lowest pile."""

    KIND = "low"

    def __call__(self, number, piles, go):
        """Return the pile of the guest with a number, who goes in a tick."""
        return _first_least([len(pile) for pile in piles])


class PlanHabit(Habit):
    """Guests use a pile on which the fewest lie who go before them."""

    KIND = "plan"

    def __call__(self, number, piles, go):
        """Return the pile of the guest with a number, who goes in a tick."""
        return _first_least([len([tick for tick in pile if tick < go]) for pile in piles])


def _ticks_of(stays):
    """Return the ticks in which somebody comes or goes, ascending."""
    comings = [stay[1] for stay in stays]
    goings = [stay[2] for stay in stays]
    return sorted(set(comings + goings))


def _lying(users, tick):
    """Return a tuple for each pile: when those go who have used it and go after a tick."""
    return [tuple([go for name, come, go in pile if go > tick]) for pile in users]


def happenings(party, habit):
    """Yield ("come", name, pile) and ("go", name, pairs) in the order of what happens."""
    order = bottom_up(party.stays)
    # Each has all who have used the pile so far, also those who have gone.
    users = [[] for _ in range(habit.pile_count)]
    for tick in _ticks_of(order):
        for pile in users:
            for stay in pile[::-1]:
                if stay[2] == tick:
                    yield "go", stay[0], len(lifted_from(pile, stay))
        for number, (name, come, go) in enumerate(order):
            if come == tick:
                chosen = habit(number, _lying(users, tick), go)
                users[chosen].append((name, come, go))
                yield "come", name, chosen


def chosen_piles(party, habit):
    """Return a dict from each guest, in the order of the list, to the pile that they choose."""
    piles = {name: chosen for what, name, chosen in happenings(party, habit) if what == "come"}
    return {name: piles[name] for name in party.names}


def lifted_with(party, habit):
    """Return how many pairs are lifted in all with a habit."""
    return sum([pairs for what, name, pairs in happenings(party, habit) if what == "go"])
