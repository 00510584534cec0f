"""Parties and what happened at a pile, told as texts."""

from shoepile.errors import Contradiction, DaybookError, InvalidName, InvalidText, TooEarly, TooWide, UnknownGuest
from shoepile.live import LivePile
from shoepile.parties import Party
from shoepile.stays import is_name

MOST_TICK_DIGITS = 10
LAST_CHART_TICK = 99
MOST_ROWS = 200
MOST_PAIR_DIGITS = 2
UNTOLD = "?"


def _rows_of(text):
    """Return a list with the list of the words of each row."""
    if text == "":
        return []
    return [row.split(" ") for row in text.split("\n")]


def _is_number(word, most):
    """Whether a word has one digit or at most so many, without leading zeros."""
    # Other signs, too, are digits to Python.
    if not 1 <= len(word) <= most or not all(["0" <= sign <= "9" for sign in word]):
        return False
    return word == "0" or word[0] != "0"


def format_party(party):
    """Return the text of a party."""
    return "\n".join([f"{name} {come}-{go}" for name, come, go in party.stays])


def _is_stay_row(words):
    """Whether a row is formed as that of a stay; its ticks may still make no stay."""
    if len(words) != 2 or not is_name(words[0]):
        return False
    ticks = words[1].split("-")
    return len(ticks) == 2 and all([_is_number(tick, MOST_TICK_DIGITS) for tick in ticks])


def parse_party(text):
    """Return the party of a text."""
    stays = []
    for row, words in enumerate(_rows_of(text)):
        if not _is_stay_row(words):
            raise InvalidText(row=row)
        come, go = words[1].split("-")
        stays.append((words[0], int(come), int(go)))
    return Party(*stays)


def chart(party):
    """Return a text that shows who is there in which ticks, and how many pairs each guest lifts."""
    last = max([go for name, come, go in party.stays], default=0)
    if last > LAST_CHART_TICK:
        raise TooWide(f"somebody goes in tick {last}")
    rows = []
    for name, come, go in party.stays:
        signs = "." * come + "=" * (go - come) + "." * (last + 1 - go)
        rows.append(f"{name:<8}{signs}{party(name):>4}")
    return "\n".join(rows)


def _is_daybook_row(words):
    """Whether a row is formed as those of a daybook are; it may still be impossible."""
    match words:
        case ["come", name]:
            return is_name(name)
        case ["wait", ticks]:
            return _is_number(ticks, 1) and ticks != "0"
        case ["go", name, "?"]:
            return is_name(name)
        case ["go", name, number]:
            return (name == UNTOLD or is_name(name)) and _is_number(number, MOST_PAIR_DIGITS)
    return False


def _guest_below(pile, pairs):
    """Return the guest with so many pairs above theirs."""
    if pairs >= len(pile):
        raise UnknownGuest(name=UNTOLD)
    return pile[len(pile) - pairs - 1]


def _tell_going(live, name, number):
    """Let a guest go, and return the row with the name and the number."""
    if name == UNTOLD:
        name = _guest_below(live.standing[0], int(number))
    pairs = len(live.go(name))
    if number != UNTOLD and int(number) != pairs:
        raise Contradiction(f"{name} lifts {pairs} pairs")
    return f"go {name} {pairs}"


def _tell(live, words):
    """Let a row happen, and return it with all names and numbers."""
    match words:
        case ["come", name]:
            live.come(name, 0)
        case ["wait", ticks]:
            live.wait(int(ticks))
        case ["go", name, number]:
            return _tell_going(live, name, number)
    return " ".join(words)


class Daybook:
    """Tells what happened at one pile."""

    def __init__(self, text):
        live = LivePile()
        self._rows = []
        # A name and a tick tell one coming from all others: nobody goes and comes again in one tick.
        self._comings = []
        for row, words in enumerate(_rows_of(text)):
            if row == MOST_ROWS or not _is_daybook_row(words):
                raise DaybookError(row=row)
            try:
                self._rows.append(_tell(live, words))
            except (InvalidName, UnknownGuest, TooEarly, Contradiction):
                raise DaybookError(row=row) from None
            if words[0] == "come":
                self._comings.append((words[1], live.now))
        self._operations = live.history
        self._departed = live.departed
        self._lifted = live.lifted_pairs

    @property
    def row_count(self):
        """The number of rows."""
        return len(self._rows)

    @property
    def lifted_all(self):
        """The number of all lifted pairs."""
        return self._lifted

    def filled(self):
        """Return the text with all names and numbers."""
        return "\n".join(self._rows)

    def finish(self):
        """Return a live pile after all that happened."""
        return LivePile.replay(1, *self._operations)

    def party_of(self):
        """Return the party of all who have gone, in the order of coming."""
        goings = {(name, come): go for name, come, go in self._departed}
        stays = [(name, come, goings[name, come]) for name, come in self._comings if (name, come) in goings]
        return Party(*stays)
