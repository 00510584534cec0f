"""Parties that come again after a period."""

from shoepile.errors import InvalidNumber, InvalidPeriod, UnknownGuest
from shoepile.stays import is_within, lifted_from

LONGEST_PERIOD = 10 ** 9
MOST_PERIODS = 20
MOST_ROUNDS = 10 ** 18


def _is_period(period, stays):
    """Whether the stays can come again after a period."""
    if not is_within(period, 1, LONGEST_PERIOD):
        return False
    return all([come < period and go - come <= MOST_PERIODS * period for name, come, go in stays])


def _check_rounds(rounds, fewest):
    if not is_within(rounds, fewest, MOST_ROUNDS):
        raise InvalidNumber(f"{rounds} is no number of rounds")


def _later_rounds(stays, period):
    """Return a dict from each guest to a list that tells, for each pair they lift, how many rounds later it came."""
    # Whoever goes has come at most 20 periods before, so nobody lies above who came more than 20 rounds later.
    all_rounds = [(name, come + later * period, go + later * period, later)
                  for later in range(MOST_PERIODS + 1) for name, come, go in stays]
    return {taker[0]: [stay[3] for stay in lifted_from(all_rounds, taker)] for taker in all_rounds[:len(stays)]}


class Repeated:
    """A party of which all stays come again after a period."""

    def __init__(self, party, period):
        if not _is_period(period, party.stays):
            raise InvalidPeriod(f"the party cannot come again after {period} ticks")
        self._later = _later_rounds(party.stays, period)

    def _later_of(self, name):
        if name not in self._later:
            raise UnknownGuest(name=name)
        return self._later[name]

    def _all_later(self):
        return [later for rounds_later in self._later.values() for later in rounds_later]

    def lifting(self, name):
        """Return how many pairs a guest lifts in each of endless rounds."""
        return len(self._later_of(name))

    def total(self, rounds):
        """Return how many pairs are lifted in all in so many rounds."""
        _check_rounds(rounds, 0)
        return sum([max(0, rounds - later) for later in self._all_later()])

    def lifting_in(self, name, number, rounds):
        """Return how many pairs a guest lifts in the round with a number, of so many rounds."""
        rounds_later = self._later_of(name)
        _check_rounds(rounds, 1)
        if not is_within(number, 0, rounds - 1):
            raise InvalidNumber(f"there is no round {number}")
        return len([later for later in rounds_later if number + later < rounds])

    def farthest(self):
        """Return by how many rounds a guest and one whose shoes they lift come apart at most."""
        return max(self._all_later(), default=0)
