"""Point 17: codes of parties."""

import random
import unittest

from shoepile.codes import decode_party, encode_party
from shoepile.errors import DecodeError
from shoepile.parties import Party
from tests.model import mixed_parties

LAST = 10 ** 9
STAYS = (("ab", 1, 4), ("c", 0, LAST), ("abcdefgh", 5, 7))
CODE = [115, 3, 2, 1, 2, 1, 4, 1, 3, 0, LAST, 8, 1, 2, 3, 4, 5, 6, 7, 8, 5, 7]


def checksum(code):
    total = 0
    for offset in range(len(code)):
        total += code[offset] * (offset + 3)
    return total % 9973


def sealed(*code):
    return [*code, checksum(code)]


def fault_of(code):
    """The offset of the first item that is not allowed, or how many items there are if some are missing, or None."""
    rest = iter(enumerate(code))
    try:
        first = next(rest)[1]
        if first != 115:
            return 0
        many = next(rest)[1]
        if not 0 <= many <= 24:
            return 1
        names = []
        for _ in range(many):
            start, size = next(rest)
            if size not in range(1, 9):
                return start
            name = []
            while len(name) < size:
                offset, letter = next(rest)
                if letter not in range(1, 27):
                    return offset
                name.append(letter)
            if name in names:
                return start
            names.append(name)
            offset, come = next(rest)
            if not 0 <= come <= LAST:
                return offset
            offset, go = next(rest)
            if not come < go <= LAST:
                return offset
        offset, told = next(rest)
        if told != checksum(code[:offset]):
            return offset
        return next(rest, (None,))[0]
    except StopIteration:
        return len(code)


def parties():
    """Parties of each size and with the longest names and latest ticks, and random ones."""
    letters = "abcdefghijklmnopqrstuvwxyz"
    for size in range(25):
        yield tuple((letters[place:place + 8], LAST - place - 1, LAST - place) for place in range(size))
    yield from mixed_parties(60, range(9), 12, 61)


class EncodeTest(unittest.TestCase):
    def test_codes(self):
        self.assertEqual(encode_party(Party(*STAYS)), sealed(*CODE))
        self.assertEqual(encode_party(Party()), [115, 0, 345])
        self.assertEqual(encode_party(Party(("az", 0, 1)))[2:5], [2, 1, 26])

    def test_there_and_back(self):
        for stays in parties():
            code = encode_party(Party(*stays))
            self.assertIs(type(code), list)
            self.assertEqual(decode_party(code), Party(*stays))
            self.assertEqual(encode_party(decode_party(code)), code)
            self.assertIsNone(fault_of(code))

    def test_returned_lists_may_be_modified(self):
        party = Party(*STAYS)
        encode_party(party).clear()
        self.assertEqual(encode_party(party), sealed(*CODE))


class DecodeTest(unittest.TestCase):
    def refuses(self, offset, code):
        before = list(code)
        with self.subTest(code), self.assertRaises(DecodeError) as caught:
            decode_party(code)
        self.assertEqual(vars(caught.exception), {"offset": offset})
        self.assertEqual(code, before)

    def check(self, code):
        """The code is refused at the right offset, or told back if nothing is wrong with it."""
        fault = fault_of(code)
        if fault is None:
            self.assertEqual(encode_party(decode_party(code)), code)
        else:
            self.refuses(fault, code)

    def test_the_code_is_not_modified(self):
        code = sealed(*CODE)
        self.assertEqual(decode_party(code).stays, STAYS)
        self.assertEqual(code, sealed(*CODE))

    def test_another_first_item(self):
        for first in (0, 114, 116, -115, 115 + 9973):
            self.refuses(0, sealed(first, *CODE[1:]))
            self.refuses(0, [first])

    def test_numbers_of_guests(self):
        for many in (25, 26, -1, LAST):
            self.refuses(1, sealed(115, many, *CODE[2:]))
            self.refuses(1, [115, many])

    def test_numbers_of_letters(self):
        for size in (0, 9, -1, 26, LAST):
            for place in (2, 7, 11):
                self.refuses(place, sealed(*CODE[:place], size, *CODE[place + 1:]))
                self.refuses(place, [*CODE[:place], size])

    def test_letters(self):
        for letter in (0, 27, -1, LAST):
            for place in (3, 4, 8, 12, 19):
                self.refuses(place, sealed(*CODE[:place], letter, *CODE[place + 1:]))

    def test_ticks_of_coming(self):
        for come in (-1, LAST + 1, 2 * LAST):
            for place in (5, 9, 20):
                self.refuses(place, sealed(*CODE[:place], come, *CODE[place + 1:]))
        # The last tick is one, but nobody can go after it.
        self.refuses(6, sealed(*CODE[:5], LAST, *CODE[6:]))

    def test_ticks_of_going(self):
        for place, wrong in ((6, (1, 0, -1, LAST + 1)), (10, (0, -1, LAST + 1)), (21, (5, 4, 0, -1, LAST + 1))):
            for go in wrong:
                self.refuses(place, sealed(*CODE[:place], go, *CODE[place + 1:]))

    def test_a_name_that_an_earlier_guest_has(self):
        self.refuses(7, sealed(*CODE[:7], 2, 1, 2, 5, 9, *CODE[11:]))
        self.refuses(11, sealed(*CODE[:11], 1, 3, 5, 7))
        self.refuses(11, sealed(*CODE[:11], 2, 1, 2, 5, 7))
        # It goes before all that is wrong behind the name, also if items are missing there.
        self.refuses(7, sealed(*CODE[:7], 2, 1, 2, 9, 5, *CODE[11:]))
        self.refuses(7, [*CODE[:7], 2, 1, 2])
        # An item that is wrong or missing within the name goes first.
        self.refuses(9, [*CODE[:7], 2, 1, 27])
        self.refuses(9, [*CODE[:7], 2, 1])
        # The beginning of an earlier name is another name.
        self.assertEqual(decode_party(sealed(115, 2, 2, 1, 2, 0, 1, 1, 1, 0, 1)).names, ("ab", "a"))
        self.assertEqual(decode_party(sealed(115, 2, 2, 1, 2, 0, 1, 2, 2, 1, 0, 1)).names, ("ab", "ba"))

    def test_wrong_checksums(self):
        right = checksum(CODE)
        for wrong in (right - 1, right + 1, right + 9973, right - 9973, -right, 0, 9973):
            self.refuses(len(CODE), [*CODE, wrong])
            self.refuses(len(CODE), [*CODE, wrong, 5])
        self.refuses(2, [115, 0, 0])

    def test_an_item_behind_the_checksum(self):
        for more in ((0,), (1, 2), (checksum(CODE),), (checksum(sealed(*CODE)),)):
            self.refuses(len(CODE) + 1, [*sealed(*CODE), *more])
        self.refuses(3, [115, 0, 345, 345])

    def test_too_short_at_every_place(self):
        code = sealed(*CODE)
        for many in range(len(code)):
            self.refuses(many, code[:many])
        self.refuses(0, [])
        self.refuses(1, [115])
        self.refuses(2, [115, 0])

    def test_each_item_changed_left_out_or_put_in(self):
        source = random.Random(62)
        values = (-1, 0, 1, 2, 4, 8, 9, 24, 25, 26, 27, 115, 345, 9972, LAST, LAST + 1)
        random_codes = [encode_party(Party(*stays)) for stays in mixed_parties(6, (2, 3), 5, 63)]
        codes = [sealed(*CODE), [115, 0, 345], *random_codes]
        for code in codes:
            for place in range(len(code)):
                for value in (*values, code[place] - 1, code[place] + 1, source.randrange(30)):
                    for changed in ([*code[:place], value, *code[place + 1:]], [*code[:place], value, *code[place:]]):
                        self.check(changed)
                        self.check(sealed(*changed[:-1]))
                self.check(code[:place] + code[place + 1:])
                self.check(sealed(*code[:place], *code[place + 1:-1]))

    def test_most_guests(self):
        stays = [(letter, 0, 1) for letter in "abcdefghijklmnopqrstuvwxyz"]
        code = encode_party(Party(*stays[:24]))
        self.assertEqual(decode_party(code).names, tuple("abcdefghijklmnopqrstuvwx"))
        self.refuses(1, sealed(115, 25, *code[2:-1], 1, 25, 0, 1))
