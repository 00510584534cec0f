"""Point 15: texts and charts of parties."""

import unittest

from shoepile.errors import InvalidStay, InvalidText, TooWide
from shoepile.notes import chart, format_party, parse_party
from shoepile.parties import Party
from tests.model import happen, mixed_parties

LAST = 10 ** 9
NAMES = "abcdefghijklmnopqrstuvwxyz"
# Each of these rows is not formed as the row of a stay is.
WRONG_ROWS = {
    "words missing": ("", "ann", "0-5", "ann-0-5"),
    "words too many": ("ann 0-5 x", "ann bob 0-5", "ann 0 - 5", "ann 0- 5", "ann 0 -5", "ann 0-5 6-7"),
    "two spaces": ("ann  0-5", "  ", "  0-5", "ann 0-5  "),
    "a space at an end": (" ann 0-5", "ann 0-5 ", " 0-5", "ann ", " "),
    "leading zeros": ("ann 00-5", "ann 0-05", "ann 01-5", "ann 0-00", "ann 0-0000000005", "ann 000-5"),
    "eleven digits": ("ann 0-10000000000", "ann 10000000000-5", "ann 0-99999999999", "ann 0-" + "9" * 5000),
    "signs that are no digits": ("ann +0-5", "ann 0-5.0", "ann 0-5e1", "ann 0-1_0", "ann 0-x", "ann ?-5", "ann 0-5\r",
                                 "ann 0-\t5", "ann\t0-5", "ann 0-\u0665", "ann 0-\u00b2", "ann 0-\uff15", "ann 0:5"),
    "minus signs": ("ann 05", "ann 0 5", "ann 0-5-", "ann -0-5", "ann 0--5", "ann -5", "ann 0-", "ann -", "ann 0-5-6",
                    "ann 0\u20135"),
    "words that are no names": ("Ann 0-5", "aNn 0-5", "ANN 0-5", "a1 0-5", "a1b 0-5", "7 0-5", "0-5 0-5", "a-b 0-5",
                                "? 0-5", "a_b 0-5", "a. 0-5", "ann\t 0-5", "\tann 0-5", "ann\r 0-5", "\u00e4 0-5",
                                "\u0430 0-5", "\uff41 0-5", "` 0-5", "{ 0-5"),
    "more than eight letters": ("abcdefghi 0-5", "annannann 0-5", "a" * 5000 + " 0-5",
                                "ev00000000000a 22463512-186199805"),
    "no name, and ticks that make no stay": ("Ann 5-0", "a1 5-5", "abcdefghi 0-1000000001", "? 9999999999-5"),
}


def other_parties():
    """Parties of each size, also with ticks of up to ten digits."""
    for size in range(25):
        yield tuple((NAMES[place] * (place % 8 + 1), 10 ** (place % 9), LAST - place) for place in range(size))
    yield from mixed_parties(60, range(9), 12, 41)


class FormatTest(unittest.TestCase):
    def test_there_and_back(self):
        for stays in other_parties():
            party = Party(*stays)
            text = format_party(party)
            self.assertEqual(text, "\n".join("%s %d-%d" % stay for stay in stays))
            self.assertEqual(parse_party(text), party)
            self.assertEqual(format_party(parse_party(text)), text)

    def test_no_guests(self):
        self.assertEqual(format_party(Party()), "")
        self.assertEqual(parse_party("").stays, ())

    def test_order_of_the_list(self):
        self.assertEqual(format_party(Party(("bob", 5, 6), ("ann", 0, 9))), "bob 5-6\nann 0-9")


class ParseTest(unittest.TestCase):
    def refuses(self, error, text, **attributes):
        with self.subTest(text):
            with self.assertRaises(error) as caught:
                parse_party(text)
            self.assertEqual(vars(caught.exception), attributes)

    def test_ticks_of_ten_digits(self):
        self.assertEqual(parse_party("ann 0-1000000000").stays, (("ann", 0, LAST),))
        self.refuses(InvalidStay, "ann 0-1000000001", index=0)
        self.refuses(InvalidStay, "ann 0-9999999999", index=0)
        self.refuses(InvalidStay, "ann 9999999999-5", index=0)

    def test_each_kind_of_wrong_row(self):
        for rows in WRONG_ROWS.values():
            for row in rows:
                if row != "":
                    self.refuses(InvalidText, row, row=0)
                self.refuses(InvalidText, f"bob 1-2\n{row}", row=1)
                self.refuses(InvalidText, f"{row}\nbob 1-2", row=0)
                self.refuses(InvalidText, f"bob 1-2\ncid 3-4\n{row}\ndan 0-9", row=2)

    def test_the_first_of_several_wrong_rows(self):
        self.refuses(InvalidText, "ann 0-5\nbob\ncid 1-2\ndan 01-2", row=1)
        self.refuses(InvalidText, "ann 0-05\nbob 0-5 ", row=0)
        self.refuses(InvalidText, "ann 0-5\nBob 0-5\ncid 1-02", row=1)
        self.refuses(InvalidText, "ann 0-5\nbob 0-05\nCid 1-2", row=1)

    def test_empty_rows(self):
        self.refuses(InvalidText, "\n", row=0)
        self.refuses(InvalidText, "ann 0-5\n", row=1)
        self.refuses(InvalidText, "ann 0-5\n\nbob 1-2", row=1)
        self.refuses(InvalidText, "\nann 0-5", row=0)
        self.refuses(InvalidText, " ", row=0)

    def test_rows_are_joined_by_nothing_but_line_feeds(self):
        for sign in ("\r", "\r\n", "\v", "\f", "\x1c", "\x85", "\u2028"):
            self.refuses(InvalidText, f"ann 0-5{sign}bob 1-2", row=0)

    def test_stays_that_are_invalid(self):
        for row in ("ann 5-5", "ann 6-5", "ann 5-0", "ann 0-0", "a 5-0", "abcdefgh 5-0", "ann 0-1000000001"):
            self.refuses(InvalidStay, row, index=0)
            self.refuses(InvalidStay, f"bob 0-5\n{row}", index=1)
        self.refuses(InvalidStay, "ann 0-5\nbob 0-5\nann 6-7", index=2)

    def test_names_of_one_and_of_eight_letters(self):
        text = "a 0-5\nz 0-5\nabcdefgh 0-5\nzzzzzzzz 0-5"
        self.assertEqual(parse_party(text).names, ("a", "z", "abcdefgh", "zzzzzzzz"))

    def test_the_25th_stay(self):
        rows = [f"{letter} 0-5" for letter in NAMES]
        self.assertEqual(len(parse_party("\n".join(rows[:24]))), 24)
        self.refuses(InvalidStay, "\n".join(rows[:25]), index=24)
        self.refuses(InvalidText, "\n".join([*rows[:25], "z 00-5"]), row=25)
        self.refuses(InvalidText, "\n".join([*rows[:25], "Z 0-5"]), row=25)

    def test_a_wrong_row_goes_before_an_invalid_stay(self):
        self.refuses(InvalidText, "ann 5-5\nbob 1-2\ncid 1-02", row=2)
        self.refuses(InvalidText, "ann 0-5\nann 0-5\n", row=2)
        self.refuses(InvalidText, "ann 5-0\nb1 0-5", row=1)
        self.refuses(InvalidText, "ann 0-5\nann 0-5\nBob 0-5", row=2)
        self.refuses(InvalidText, "ann 0-1000000001\nbob 0-5\nabcdefghi 0-5", row=2)

    def test_a_word_of_fourteen_signs_in_the_place_of_a_name(self):
        rows = ["ann 169060820-466044442", "bob 15919638-287207356", "cid 280911968-357219176",
                "dee 183951115-456930381", "ev00000000000a 22463512-186199805"]
        self.refuses(InvalidText, "\n".join(rows), row=4)
        self.assertEqual(parse_party("\n".join(rows[:4])).names, ("ann", "bob", "cid", "dee"))


class ChartTest(unittest.TestCase):
    def test_against_a_slow_model(self):
        for stays in [*mixed_parties(60, range(1, 9), 12, 42), *mixed_parties(20, (12,), 99, 43)]:
            lifted, after = happen(stays)
            rows = []
            for name, _, _ in stays:
                signs = "".join("=" if name in after[tick] else "." for tick in sorted(after))
                pairs = str(len([taker for taker, _ in lifted if taker == name]))
                rows.append(name + " " * (8 - len(name)) + signs + " " * (4 - len(pairs)) + pairs)
            self.assertEqual(chart(Party(*stays)), "\n".join(rows))

    def test_no_guests(self):
        self.assertEqual(chart(Party()), "")

    def test_names_of_one_and_of_eight_letters(self):
        self.assertEqual(chart(Party(("a", 0, 1), ("abcdefgh", 1, 2))), "a       =..   0\nabcdefgh.=.   0")

    def test_the_last_tick_is_that_of_the_last_going(self):
        self.assertEqual(chart(Party(("ann", 2, 3), ("bob", 1, 5))), "ann     ..=...   0\nbob     .====.   0")
        self.assertEqual(chart(Party(("ann", 0, 1))), "ann     =.   0")

    def test_tick_99_and_tick_100(self):
        party = Party(("ann", 98, 99), ("bob", 0, 99))
        self.assertEqual(chart(party), f"ann     {'.' * 98}=.   0\nbob     {'=' * 99}.   0")
        for go in (100, 101, LAST):
            for stays in ((("ann", 0, go),), (("ann", 0, 5), ("bob", 1, go)), (("bob", 99, go), ("ann", 0, 5))):
                with self.subTest(stays), self.assertRaises(TooWide):
                    chart(Party(*stays))

    def test_numbers_of_one_and_of_two_digits(self):
        stays = [(letter, place, place + 24) for place, letter in enumerate(NAMES[:24])]
        ends = [row[-4:] for row in chart(Party(*stays)).split("\n")]
        self.assertEqual(ends, [f"  {pairs}" if pairs > 9 else f"   {pairs}" for pairs in range(23, -1, -1)])
