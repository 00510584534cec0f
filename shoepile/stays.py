"""Stays, the tuples (name, come, go) of which parties are made, and what is asked of their items."""

LAST_TICK = 10 ** 9
LONGEST_NAME = 8


def is_name(word):
    """Whether a word has one to eight letters a to z."""
    return 1 <= len(word) <= LONGEST_NAME and all(["a" <= letter <= "z" for letter in word])


def is_within(number, low, high):
    """Whether a number is an integer from a lowest to a highest one."""
    # True and False are integers to Python, but not to this package.
    return not isinstance(number, bool) and low <= number <= high


def is_tick(number):
    """Whether a number is an integer from 0 to the last tick."""
    return is_within(number, 0, LAST_TICK)


def is_stay(name, come, go):
    """Whether a name and two ticks make a stay."""
    return is_name(name) and is_tick(come) and is_tick(go) and come < go


def bottom_up(stays):
    """Return the stays in the order of coming, in which their shoes lie on one another."""
    # Sorting keeps the order of the list for guests who come in the same tick.
    return sorted(stays, key=lambda stay: stay[1])


def lifted_from(stays, taker):
    """Return the stays whose shoes a taker, one of the stays, lifts when going, from the top down."""
    pile = bottom_up(stays)
    later = pile[pile.index(taker) + 1:]
    # Who goes in the same tick as the taker lies higher here, so has gone before.
    return [stay for stay in later[::-1] if stay[1] < taker[2] < stay[2]]
