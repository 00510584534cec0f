"""The errors of the package."""


class PartyError(ValueError):
    """The base class of all errors of the package."""


class InvalidStay(PartyError):
    """A stay is invalid, repeats a name or is one too many."""

    def __init__(self, *, index):
        super().__init__(f"stay {index} is not allowed")
        self.index = index


class UnknownGuest(PartyError):
    """There is no guest with this name."""

    def __init__(self, *, name):
        super().__init__(f"there is no guest {name}")
        self.name = name


class InvalidTick(PartyError):
    """A tick is out of range."""


class InvalidNumber(PartyError):
    """A number is out of range."""


class InvalidPeriod(PartyError):
    """A period is out of range, or too short for the party."""


class InvalidRing(PartyError):
    """A list of guests is no ring of crossing stays."""

    def __init__(self, *, index):
        super().__init__(f"the ring breaks at {index}")
        self.index = index


class TooManyGuests(PartyError):
    """There are more guests than a function takes."""


class InvalidGoings(PartyError):
    """A going cannot be, or goings and comings differ in number."""

    def __init__(self, *, index):
        super().__init__(f"going {index} is not allowed")
        self.index = index


class Contradiction(PartyError):
    """An observation leaves no way in which the guests can have gone."""


class InvalidName(PartyError):
    """A name is not formed as names are, or is taken."""


class TooEarly(PartyError):
    """A guest goes in the tick in which they came."""


class InvalidOperation(PartyError):
    """An operation has an unknown name or a wrong number of items."""

    def __init__(self, *, index):
        super().__init__(f"operation {index} is not formed as operations are")
        self.index = index


class InvalidText(PartyError):
    """A row of a text is not formed as rows of stays are."""

    def __init__(self, *, row):
        super().__init__(f"row {row} is not formed as rows are")
        self.row = row


class TooWide(PartyError):
    """A party takes too long for a chart."""


class DaybookError(PartyError):
    """A row of a daybook is not formed as rows are, or cannot happen."""

    def __init__(self, *, row):
        super().__init__(f"row {row} cannot be")
        self.row = row


class DecodeError(PartyError):
    """An item of a code is not allowed, or is missing."""

    def __init__(self, *, offset):
        super().__init__(f"the code breaks at {offset}")
        self.offset = offset
