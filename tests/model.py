"""A slow model of the pile, written from the document, and parties to compare with it."""

import itertools
import random
import re

NAMES = ("a", "b", "c", "d", "e", "f", "g", "h", "i", "j", "k", "l")


def happen(stays):
    """Let a party happen tick by tick: all lifted pairs, and the pile after each tick."""
    pile, lifted, after = [], [], {}
    for tick in range(max([go for _, _, go in stays], default=0) + 1):
        for name in [name for name, _, go in reversed(pile) if go == tick]:
            place = [stay[0] for stay in pile].index(name)
            lifted += [(name, stay[0]) for stay in reversed(pile[place + 1:])]
            del pile[place]
        pile += [stay for stay in stays if stay[1] == tick]
        after[tick] = [stay[0] for stay in pile]
    return lifted, after


def is_quiet(stays):
    """Whether nobody lifts anything if these alone use one pile."""
    return not happen(stays)[0]


def works(stays, piles):
    """Whether nobody lifts anything with these piles."""
    groups = [[stay for stay, own in zip(stays, piles) if own == pile] for pile in set(piles)]
    return all(is_quiet(group) for group in groups)


def all_parties(many, last):
    """All lists of so many stays within the ticks from 0 to the last one."""
    spans = list(itertools.combinations(range(last + 1), 2))
    for chosen in itertools.product(spans, repeat=many):
        yield tuple((name, *span) for name, span in zip(NAMES, chosen))


def mixed_parties(many, sizes, last, seed):
    """So many lists of stays that always are the same, with ticks that often coincide."""
    source = random.Random(seed)
    for _ in range(many):
        size = source.choice(sizes)
        spans = [sorted(source.sample(range(last + 1), 2)) for _ in range(size)]
        names = source.sample(NAMES, size)
        yield tuple((name, *span) for name, span in zip(names, spans))


def ring_stays(names, start=0):
    """Stays whose crossings are just the ring of these names, at least four, one after another."""
    stays = [(name, start + 2 * place, start + 2 * place + 3) for place, name in enumerate(names[:-1])]
    return tuple(stays) + ((names[-1], start + 1, start + 2 * len(names) - 2),)


def happen_with(stays, count, choose):
    """Let a party with several piles happen tick by tick: what happens, in order."""
    piles, events, number = [[] for _ in range(count)], [], 0
    for tick in range(max([go for _, _, go in stays], default=0) + 1):
        for pile in piles:
            for place in range(len(pile) - 1, -1, -1):
                if pile[place][2] == tick:
                    events.append(("go", pile[place][0], len(pile) - place - 1))
                    del pile[place]
        for stay in stays:
            if stay[1] == tick:
                chosen = choose(number, [tuple(go for _, _, go in pile) for pile in piles], stay[2])
                piles[chosen].append(stay)
                events.append(("come", stay[0], chosen))
                number += 1
    return events


class SlowLive:
    """A live pile that keeps nothing but its operations and lets all happen anew for each answer."""

    def __init__(self, piles):
        self.piles, self.done, self.undone = piles, [], []

    def _there(self):
        """The tick, the pile and (name, tick of coming) of all shoes from the bottom up, all pairs, all stays."""
        tick, shoes, lifted, stays = 0, [], [], []
        for word, *items in self.done:
            if word == "wait":
                tick += items[0]
            elif word == "come":
                shoes.append((items[1], items[0], tick))
            else:
                taken = [shoe for shoe in shoes if shoe[1] == items[0]][0]
                above = shoes[shoes.index(taken) + 1:]
                lifted += [shoe[1] for shoe in above if shoe[0] == taken[0]][::-1]
                shoes.remove(taken)
                stays.append((*taken[1:], tick))
        return tick, shoes, lifted, stays

    def state(self):
        tick, shoes, lifted, stays = self._there()
        standing = [tuple(name for own, name, _ in shoes if own == pile) for pile in range(self.piles)]
        return tick, len(lifted), standing, stays, list(self.done)

    def fault(self, word, *items):
        """The name of the error that an operation raises, or None."""
        tick, shoes, _, _ = self._there()
        ticks = {name: come for _, name, come in shoes}
        if word == "wait":
            return None if 1 <= items[0] <= 10 ** 9 and tick + items[0] <= 10 ** 9 else "InvalidNumber"
        if word == "go":
            if items[0] not in ticks:
                return "UnknownGuest"
            return "TooEarly" if ticks[items[0]] == tick else None
        if items[0] in ticks or not re.fullmatch("[a-z]{1,8}", items[0]):
            return "InvalidName"
        return None if items[1] in range(self.piles) else "InvalidNumber"

    def perform(self, operation):
        """Perform an operation without a fault, and return its result."""
        before = self._there()
        self.done.append(operation)
        self.undone = []
        after = self._there()
        if operation[0] == "wait":
            return after[0]
        if operation[0] == "come":
            return len([shoe for shoe in after[1] if shoe[0] == operation[2]])
        return after[2][len(before[2]):]

    def undo(self):
        self.undone += self.done[-1:]
        return bool(self.done) and bool(self.done.pop())

    def redo(self):
        self.done += self.undone[-1:]
        return bool(self.undone) and bool(self.undone.pop())
