"""Point 16: daybooks."""

import random
import re
import unittest

from shoepile.errors import DaybookError, InvalidStay
from shoepile.live import LivePile
from shoepile.notes import Daybook
from tests.live_helpers import WRONG_NAMES, state

TEXT = "come ann\nwait 2\ncome bob\ncome cid\nwait 1\ngo ? 1\ngo ann ?\ncome bob\nwait 9\ngo bob 0\ngo cid 0"
FILLED = TEXT.replace("?", "bob", 1).replace("?", "1")
FORM = re.compile(r"come [a-z]{1,8}|wait [1-9]|go [a-z]{1,8} ([0-9]|[1-9][0-9]|\?)|go \? ([0-9]|[1-9][0-9])")


def slow_daybook(text):
    """The first wrong row of a text, or the filled rows, all pairs, the operations and the stays by coming."""
    pile, tick, filled, lifted, operations, stays = [], 0, [], 0, [], []
    for row, line in enumerate(text.split("\n") if text else []):
        if row >= 200 or not FORM.fullmatch(line):
            return row
        word, name, number = (line.split(" ") + ["-"])[:3]
        there = [guest for guest, _ in pile]
        if word == "wait":
            tick += int(name)
            operations.append((word, int(name)))
        elif word == "come":
            if name in there:
                return row
            pile.append((name, tick))
            stays.append((name, tick, None))
            operations.append((word, name, 0))
        else:
            fitting = [place for place, guest in enumerate(there)
                       if name in ("?", guest) and number in ("?", str(len(pile) - 1 - place))]
            if not fitting or pile[fitting[0]][1] == tick:
                return row
            name, come = pile.pop(fitting[0])
            number = len(pile) - fitting[0]
            lifted += number
            stays[stays.index((name, come, None))] = (name, come, tick)
            operations.append((word, name))
            line = f"go {name} {number}"
        filled.append(line)
    return filled, lifted, operations, [stay for stay in stays if stay[2] is not None]


def random_text(source, many):
    """A text of which most rows can happen."""
    there, rows = [], []
    for _ in range(many):
        word = source.choice(("come", "wait", "wait", "go"))
        name = source.choice("abcdef")
        if word == "come" and (name not in there or source.random() < 0.03):
            rows.append(f"come {name}")
            there.append(name)
        elif word == "go" and there and rows[-1].startswith("wait"):
            name = source.choice(there)
            pairs = len(there) - 1 - there.index(name) + (source.random() < 0.03)
            there.remove(name)
            rows.append(source.choice((f"go {name} {pairs}", f"go {name} ?", f"go ? {pairs}")))
        else:
            rows.append(f"wait {source.randint(1, 9)}")
    return "\n".join(rows)


class DaybookCase(unittest.TestCase):
    def refuses(self, row, text):
        with self.subTest(text[-200:]), self.assertRaises(DaybookError) as caught:
            Daybook(text)
        self.assertEqual(vars(caught.exception), {"row": row})

    def refuses_after(self, *rows):
        """The last of these rows is wrong, wherever the rows begin, and whatever follows."""
        text = "\n".join(rows)
        self.refuses(len(rows) - 1, text)
        self.refuses(len(rows), f"wait 3\n{text}")
        self.refuses(len(rows) - 1, f"{text}\ncome come\nwait 0")


class FormTest(DaybookCase):
    def test_each_kind_of_row(self):
        daybook = Daybook(TEXT)
        self.assertEqual((daybook.row_count, daybook.lifted_all, daybook.filled()), (11, 2, FILLED))

    def test_properties_cannot_be_assigned(self):
        for name in ("row_count", "lifted_all"):
            with self.assertRaises(AttributeError):
                setattr(Daybook(TEXT), name, 0)

    def test_the_empty_text(self):
        daybook = Daybook("")
        self.assertEqual((daybook.row_count, daybook.lifted_all, daybook.filled()), (0, 0, ""))
        self.assertEqual(daybook.party_of().stays, ())
        self.assertEqual(state(daybook.finish()), (0, 0, [()], [], []))

    def test_200_and_201_rows(self):
        rows = ["wait 1"] * 200
        self.assertEqual((Daybook("\n".join(rows)).row_count, Daybook("\n".join(rows)).finish().now), (200, 200))
        for more in ("wait 1", "come ann", "", "wait 0", "wait 1\nwait 1"):
            self.refuses(200, "\n".join([*rows, more]))
        self.refuses(199, "\n".join([*rows[:199], "wait", "wait 1"]))
        self.refuses(0, "\n".join(["wait 0", *rows]))

    def test_rows_of_unknown_kinds(self):
        for row in ("", " ", "come", "wait", "go", "stay ann", "Come ann", "comeann", "COME ann", "undo", "? ann 1",
                    "ann 0-5", "come ann\r", "come\tann", "#"):
            if row:
                self.refuses_after(row)
            self.refuses_after("come ann", row)

    def test_wrong_names(self):
        for name in WRONG_NAMES:
            if not name.endswith("\n"):
                self.refuses_after(f"come {name}")
                self.refuses_after("come ann", "wait 1", "come bob", "wait 1", f"go {name} 2")
        self.assertEqual(Daybook("come abcdefgh\nwait 1\ngo abcdefgh 0").row_count, 3)

    def test_comings(self):
        for row in ("come ", "come  ann", " come ann", "come ann ", "come ann 0", "come ann bob", "come ?"):
            self.refuses_after(row)

    def test_waits(self):
        for digit in "123456789":
            self.assertEqual(Daybook(f"wait {digit}").finish().now, int(digit))
        for row in ("wait 0", "wait 10", "wait 01", "wait 1 ", " wait 1", "wait  1", "wait ", "wait ?", "wait -1",
                    "wait +1", "wait x", "wait 1 1", "wait 1.0", "wait \u0661", "wait \u00b2", "wait ann"):
            self.refuses_after(row)

    def test_goings(self):
        for row in ("go ann", "go 0", "go ann 00", "go ann 01", "go ann 000", "go ann 100", "go ann  0", "go  ann 0",
                    "go ann 0 ", " go ann 0", "go ann ", "go  0", "go ann 0 0", "go ann x", "go ann -0", "go ann +0",
                    "go ann \u0660", "go ann 0?", "go ann ??", "go ann? 0", "go ?? 0", "go 0 ann"):
            self.refuses_after("come ann", "wait 1", row)

    def test_a_missing_name_a_missing_number_and_both_missing(self):
        rows = ["come ann", "come bob", "wait 1"]
        for row, filled in (("go ? 0", "go bob 0"), ("go ? 1", "go ann 1"), ("go ann ?", "go ann 1"),
                            ("go bob ?", "go bob 0")):
            self.assertEqual(Daybook("\n".join([*rows, row])).filled(), "\n".join([*rows, filled]))
        self.refuses_after(*rows, "go ? ?")
        self.refuses_after("come ann", "wait 1", "go ? ?")
        for row in ("go ?", "go  ?", "go ? ", "go ? ? ?", "go ? 00", "go ? 01", "go ? x"):
            self.refuses_after(*rows, row)

    def test_numbers_of_two_digits(self):
        names = [f"{first}{second}" for first in "abcdefghijkl" for second in "abcdefghij"]
        rows = [f"come {name}" for name in names] + ["wait 1"]
        for place in (0, 1, 20, 109, 110):
            self.assertEqual(Daybook("\n".join([*rows, f"go {names[place]} ?"])).lifted_all, 119 - place)
        for place in (20, 21, 109, 110, 119):
            for row in (f"go ? {119 - place}", f"go {names[place]} {119 - place}"):
                daybook = Daybook("\n".join([*rows, row]))
                self.assertEqual(daybook.filled().split("\n")[-1], f"go {names[place]} {119 - place}")
        for row in ("go ? 119", "go aa 119", "go ? 100", "go aa 11", "go aa 19"):
            self.refuses_after(*rows, row)

    def test_a_number_of_three_digits_can_be_filled_in(self):
        names = [f"{first}{second}" for first in "abcdefghijk" for second in "abcdefghij"]
        rows = [f"come {name}" for name in names] + ["wait 1"]
        self.assertEqual(Daybook("\n".join([*rows, "go aa ?"])).filled(), "\n".join([*rows, "go aa 109"]))


class HappenTest(DaybookCase):
    def test_somebody_comes_who_is_there(self):
        self.refuses_after("come ann", "come ann")
        self.refuses_after("come ann", "come bob", "wait 1", "come ann")
        self.refuses_after("come ann", "come bob", "wait 1", "go ann 1", "come bob")
        self.assertEqual(Daybook("come ann\nwait 1\ngo ann 0\ncome ann").row_count, 4)

    def test_somebody_goes_who_is_not_there(self):
        for row in ("go ann 0", "go ann ?"):
            self.refuses_after(row)
            self.refuses_after("come bob", "wait 1", row)
            self.refuses_after("come ann", "wait 1", "go ann 0", row)

    def test_somebody_goes_in_the_tick_of_coming(self):
        for row in ("go ann 0", "go ann ?", "go ? 0"):
            self.refuses_after("come ann", row)
            self.refuses_after("wait 1", "come ann", row)
            self.refuses_after("come bob", "wait 1", "come ann", row)
        self.refuses_after("come ann", "wait 1", "go ann 0", "come ann", "go ann 0")
        self.assertEqual(Daybook("come bob\nwait 1\ncome ann\ngo ? 1").filled(),
                         "come bob\nwait 1\ncome ann\ngo bob 1")

    def test_a_guest_with_so_many_pairs_above_does_not_exist(self):
        self.refuses_after("go ? 0")
        self.refuses_after("come ann", "wait 1", "go ? 1")
        self.refuses_after("come ann", "come bob", "wait 1", "go ? 2")
        self.refuses_after("come ann", "come bob", "wait 1", "go ? 99")
        self.refuses_after("come ann", "wait 1", "go ann 0", "go ? 0")

    def test_a_name_and_a_number_do_not_agree(self):
        rows = ("come ann", "come bob", "come cid", "wait 1")
        for name, right in (("ann", 2), ("bob", 1), ("cid", 0)):
            for number in (0, 1, 2, 3, 22):
                if number == right:
                    self.assertEqual(Daybook("\n".join([*rows, f"go {name} {number}"])).lifted_all, right)
                else:
                    self.refuses_after(*rows, f"go {name} {number}")

    def test_the_first_of_several_wrong_rows(self):
        self.refuses(1, "come ann\ngo ann 0\ncome ann\nwait 0")
        self.refuses(2, "come ann\nwait 1\ngo bob 0\n\ncome ann")
        self.refuses(1, "come ann\nwait 0\ngo ann 0")
        self.refuses(0, "go ? ?\n" * 300)


class ResultsTest(DaybookCase):
    def check_against_the_model(self, text):
        expected = slow_daybook(text)
        if isinstance(expected, int):
            self.refuses(expected, text)
            return False
        filled, lifted, operations, stays = expected
        daybook = Daybook(text)
        self.assertEqual((daybook.row_count, daybook.lifted_all), (len(filled), lifted))
        self.assertEqual(daybook.filled(), "\n".join(filled))
        live = daybook.finish()
        self.assertEqual(live.history, operations)
        self.assertEqual(state(live), state(LivePile.replay(1, *operations)))
        self.assertEqual((live.lifted_pairs, sorted(live.departed)), (lifted, sorted(stays)))
        names = [name for name, _, _ in stays]
        repeated = [place for place, name in enumerate(names) if place == 24 or name in names[:place]]
        if repeated:
            with self.assertRaises(InvalidStay) as caught:
                daybook.party_of()
            self.assertEqual(caught.exception.index, repeated[0])
        else:
            self.assertEqual(daybook.party_of().stays, tuple(stays))
        return True

    def test_random_texts(self):
        source = random.Random(51)
        texts = [random_text(source, source.randint(1, 40)) for _ in range(400)]
        good = [text for text in texts if self.check_against_the_model(text)]
        self.assertGreater(len(good), 200)
        self.assertLess(len(good), 390)
        for text in good:
            filled = Daybook(text).filled()
            self.assertEqual(Daybook(filled).filled(), filled)

    def test_random_texts_with_a_changed_sign(self):
        source = random.Random(52)
        for _ in range(400):
            text = random_text(source, 12)
            place = source.randrange(len(text))
            sign = source.choice("abc019? \n")
            self.check_against_the_model(text[:place] + sign + text[place + source.randrange(2):])

    def test_finish_returns_a_live_pile_with_one_pile(self):
        daybook = Daybook(TEXT)
        live = daybook.finish()
        self.assertIs(type(live), LivePile)
        self.assertEqual((live.now, live.lifted_pairs, live.standing), (12, 2, [()]))
        self.assertEqual(live.departed, [("bob", 2, 3), ("ann", 0, 3), ("bob", 3, 12), ("cid", 2, 12)])
        self.assertEqual(live.history, [
            ("come", "ann", 0), ("wait", 2), ("come", "bob", 0), ("come", "cid", 0), ("wait", 1), ("go", "bob"),
            ("go", "ann"), ("come", "bob", 0), ("wait", 9), ("go", "bob"), ("go", "cid")])
        self.assertIs(live.redo(), False)
        self.assertEqual([live.undo() for _ in range(12)], [True] * 11 + [False])

    def test_finish_returns_a_new_live_pile_each_time(self):
        daybook = Daybook(TEXT)
        live = daybook.finish()
        before = state(live)
        live.come("zed", 0)
        live.undo()
        live.undo()
        self.assertEqual(state(daybook.finish()), before)
        self.assertEqual((daybook.row_count, daybook.lifted_all, daybook.filled()), (11, 2, FILLED))

    def test_party_of_is_in_the_order_of_coming(self):
        text = "come dan\ncome bob\ncome ann\nwait 1\ncome cid\ngo ann 1\ngo dan 2\nwait 1\ngo ? 0\ncome eve"
        self.assertEqual(Daybook(text).party_of().stays, (("dan", 0, 1), ("ann", 0, 1), ("cid", 1, 2)))
        self.assertEqual(Daybook(text + "\nwait 1\ngo bob 1").party_of().names, ("dan", "bob", "ann", "cid"))

    def test_party_of_somebody_who_came_again(self):
        text = "come ann\ncome bob\nwait 1\ngo ann 1\nwait 1\ncome ann"
        self.assertEqual(Daybook(text).party_of().stays, (("ann", 0, 1),))
        self.assertEqual(Daybook(text + "\nwait 1\ngo bob 1").party_of().stays, (("ann", 0, 1), ("bob", 0, 3)))
        for rows, index in (("\nwait 1\ngo ann 0", 1), ("\nwait 1\ngo ann 0\ngo bob 0", 2)):
            for _ in range(2):
                with self.assertRaises(InvalidStay) as caught:
                    Daybook(text + rows).party_of()
                self.assertEqual(caught.exception.index, index)

    def test_party_of_24_and_of_25_guests(self):
        names = "abcdefghijklmnopqrstuvwxyz"
        rows = [f"come {name}" for name in names] + ["wait 1"] + [f"go {name} ?" for name in names]
        self.assertEqual(Daybook("\n".join(rows[:-2])).party_of().names, tuple(names[:24]))
        for many in (len(rows) - 1, len(rows)):
            with self.assertRaises(InvalidStay) as caught:
                Daybook("\n".join(rows[:many])).party_of()
            self.assertEqual(caught.exception.index, 24)
