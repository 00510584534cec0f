"""Codes of parties: lists of integers with a checksum."""

from shoepile.errors import DecodeError
from shoepile.parties import Party
from shoepile.stays import LAST_TICK, LONGEST_NAME, is_within

FIRST_ITEM = 115
LETTERS = "abcdefghijklmnopqrstuvwxyz"
MODULUS = 9973


def _checksum(code):
    return sum([item * (offset + 3) for offset, item in enumerate(code)]) % MODULUS


def encode_party(party):
    """Return the code of a party."""
    code = [FIRST_ITEM, len(party)]
    for name, come, go in party.stays:
        letters = [LETTERS.index(letter) + 1 for letter in name]
        code.extend([len(name), *letters, come, go])
    code.append(_checksum(code))
    return code


class Reader:
    """Takes the items of a code one by one."""

    def __init__(self, code):
        self._code = code
        self.offset = 0

    def take(self, low, high):
        """Return the next item, which is from a lowest to a highest number."""
        if self.offset == len(self._code) or not is_within(self._code[self.offset], low, high):
            raise DecodeError(offset=self.offset)
        self.offset += 1
        return self._code[self.offset - 1]

    def take_checksum(self):
        """Take the checksum of all items before it, and let nothing follow."""
        checksum = _checksum(self._code[:self.offset])
        self.take(checksum, checksum)
        if self.offset < len(self._code):
            raise DecodeError(offset=self.offset)


def _take_name(reader, names):
    """Return the next name, which is not one of those of earlier guests."""
    start = reader.offset
    size = reader.take(1, LONGEST_NAME)
    letters = [LETTERS[reader.take(1, len(LETTERS)) - 1] for _ in range(size)]
    name = "".join(letters)
    if name in names:
        raise DecodeError(offset=start)
    return name


def decode_party(code):
    """Return the party of a code."""
    reader = Reader(code)
    reader.take(FIRST_ITEM, FIRST_ITEM)
    guest_count = reader.take(0, Party.MAX_GUESTS)
    stays = []
    for _ in range(guest_count):
        name = _take_name(reader, [stay[0] for stay in stays])
        come = reader.take(0, LAST_TICK)
        go = reader.take(come + 1, LAST_TICK)
        stays.append((name, come, go))
    reader.take_checksum()
    return Party(*stays)
