"""Entries as texts and back: promise 12."""

import re
import unittest

from stockfloor.errors import BadMany, BadPlace, BadWare, NoEntry, NoHold, NoLine
from stockfloor.notes import read, shown
from tests.looks import GREAT, NO_AMOUNTS, NO_COUNTS, NO_PLACES, NO_WARES, stocked
from tests.test_book import NO_ENTRIES

LONGEST = "abcdefghijklmnopqrst"
GREATEST = "1" + "0" * 30

PAIRS = (
    (("come", 3, "tea", 12), "come 3 tea 12"),
    (("go", 40, "coffee", 7), "go 40 coffee 7"),
    (("move", 3, 10, "tea", 100), "move 3 10 tea 100"),
    (("hold", 9, "tea", 5), "hold 9 tea 5"),
    (("let", 1), "let 1"),
    (("take", 20), "take 20"),
    (("shift", 3, 9998), "shift 3 9998"),
    (("counted", 1000, "tea", 305), "counted 1000 tea 305"),
    (("wish", "tea", 60), "wish tea 60"),
    # The least ones.
    (("come", 0, "a", 1), "come 0 a 1"),
    (("go", 0, "a", 1), "go 0 a 1"),
    (("move", 0, 1, "a", 1), "move 0 1 a 1"),
    (("move", 1, 0, "a", 1), "move 1 0 a 1"),
    (("hold", 0, "a", 1), "hold 0 a 1"),
    (("shift", 1, 0), "shift 1 0"),
    (("take", 1), "take 1"),
    (("counted", 0, "a", 0), "counted 0 a 0"),
    (("counted", 0, "a", 1), "counted 0 a 1"),
    (("wish", "z", 1), "wish z 1"),
    # The greatest ones.
    (("come", 9999, LONGEST, GREAT), "come 9999 " + LONGEST + " " + GREATEST),
    (("go", 9999, LONGEST, GREAT), "go 9999 " + LONGEST + " " + GREATEST),
    (("move", 9998, 9999, LONGEST, GREAT), "move 9998 9999 " + LONGEST + " " + GREATEST),
    (("move", 9999, 9998, LONGEST, GREAT), "move 9999 9998 " + LONGEST + " " + GREATEST),
    (("hold", 9999, LONGEST, GREAT), "hold 9999 " + LONGEST + " " + GREATEST),
    (("let", GREAT), "let " + GREATEST),
    (("take", GREAT), "take " + GREATEST),
    (("take", GREAT - 1), "take " + "9" * 30),
    (("shift", GREAT, 9999), "shift " + GREATEST + " 9999"),
    (("counted", 9999, LONGEST, GREAT), "counted 9999 " + LONGEST + " " + GREATEST),
    (("wish", LONGEST, GREAT), "wish " + LONGEST + " " + GREATEST),
    (("wish", "z" * 20, GREAT - 1), "wish " + "z" * 20 + " " + "9" * 30),
    # Whether it could be done is not looked at.
    (("move", 3, 3, "tea", 1), "move 3 3 tea 1"),
    # A ware may be called as a deed is.
    (("come", 3, "come", 12), "come 3 come 12"),
    (("wish", "let", 12), "wish let 12"),
)

PLACE = "(0|[1-9][0-9]{0,3})"
WARE = "[a-z]{1,20}"
MANY = "([1-9][0-9]{0,29}|10{30})"
LINES = re.compile("|".join((
    f"(come|go|hold) {PLACE} {WARE} {MANY}",
    f"move {PLACE} {PLACE} {WARE} {MANY}",
    f"(let|take) {MANY}",
    f"shift {MANY} {PLACE}",
    f"counted {PLACE} {WARE} (0|{MANY})",
    f"wish {WARE} {MANY}",
)))

SIGNS = [chr(code) for code in range(128)]


class Both(unittest.TestCase):
    def test_each_of_the_nine_kinds_both_ways(self):
        for entry, line in PAIRS:
            with self.subTest(line):
                self.assertEqual(shown(entry), line)
                self.assertEqual(read(line), entry)

    def test_the_kinds_of_what_is_read_and_shown(self):
        for entry, line in PAIRS:
            self.assertIs(type(shown(entry)), str)
            self.assertIs(type(read(line)), tuple)
            self.assertEqual([type(part) for part in read(line)], [type(part) for part in entry])

    def test_by_the_names_of_their_arguments(self):
        self.assertEqual(shown(entry=("let", 1)), "let 1")
        self.assertEqual(read(line="let 1"), ("let", 1))

    def test_a_floors_book(self):
        floor = stocked()
        floor.move(3, 4, "tea", 1)
        floor.go(3, "tea", 1)
        floor.shift(3, 0)
        floor.wish("tea", 7)
        floor.counted(4, "tea", 0)
        lines = [shown(entry) for entry in floor.book()]
        self.assertEqual({line.split(" ")[0] for line in lines},
                         {"come", "go", "move", "hold", "let", "take", "shift", "counted", "wish"})
        self.assertEqual([read(line) for line in lines], floor.book())

    def test_every_place(self):
        for place in range(10000):
            line = "shift 7 " + str(place)
            self.assertEqual(shown(("shift", 7, place)), line)
            self.assertEqual(read(line), ("shift", 7, place))

    def test_numbers_of_each_length(self):
        for figures in range(1, 31):
            for text in ("1" + "0" * (figures - 1), "9" * figures, "1234567890" * 3)[:3]:
                number = int(text)
                for entry in (("let", number), ("wish", "tea", number), ("counted", 3, "tea", number)):
                    self.assertEqual(read(shown(entry)), entry)
                    self.assertTrue(shown(entry).endswith(" " + text))


class NoLines(unittest.TestCase):
    def check_refused(self, line):
        with self.subTest(line=line):
            with self.assertRaises(NoLine) as caught:
                read(line)
            self.assertIs(type(caught.exception), NoLine)

    def test_blanks_where_they_do_not_belong(self):
        for _, line in PAIRS:
            for wrong in (" " + line, line + " ", line.replace(" ", "  "), line.replace(" ", "  ", 1),
                          "  ".join(line.rsplit(" ", 1)), " " + line + " ", line.replace(" ", ""),
                          line.replace(" ", "", 1)):
                self.check_refused(wrong)

    def test_other_signs_in_a_blanks_place(self):
        for _, line in PAIRS:
            for sign in ("\t", "\n", "\r", "\x0b", "\x0c", "\x1f", "\x00", "_", ",", ";", "-", "\u00a0", "\u2003"):
                self.check_refused(line.replace(" ", sign))
                self.check_refused(line.replace(" ", sign, 1))
                self.check_refused(line.replace(" ", " " + sign, 1))
                self.check_refused(line + sign)
                self.check_refused(sign + line)
                self.check_refused(line + sign + line)

    def test_no_text_to_speak_of(self):
        for line in ("", " ", "  ", "\n", "\t", "0", "1", "-", "tea", "none", "come tea", "3", "3 tea 12"):
            self.check_refused(line)

    def test_words_alone_and_words_that_are_none(self):
        for word in ("come", "go", "move", "hold", "let", "take", "shift", "counted", "wish"):
            self.check_refused(word)
            self.check_refused(word + " ")
        for line in ("Come 3 tea 12", "COME 3 tea 12", "comes 3 tea 12", "com 3 tea 12", "count 3 tea 12",
                     "there 3 tea", "holding 1", "places tea", "numbers", "book", "none 1", "free 3 tea 12"):
            self.check_refused(line)

    def test_a_part_more_and_a_part_less(self):
        for entry, line in PAIRS:
            # Without its first part this one is another entry.
            if entry[:2] == ("wish", "let"):
                continue
            parts = line.split(" ")
            for more in ("1", "0", "tea", "let", GREATEST):
                self.check_refused(line + " " + more)
            for at in range(len(parts)):
                self.check_refused(" ".join(parts[:at] + parts[at + 1:]))

    def test_parts_in_another_order(self):
        for line in ("come tea 3 12", "come 3 12 tea", "3 come tea 12", "tea 12 come 3", "wish 12 tea", "1 let",
                     "shift 3 tea", "counted tea 3 12", "move 3 tea 4 12", "hold tea 3 12"):
            self.check_refused(line)

    def test_numbers_that_are_written_otherwise(self):
        for form in ("come {} tea 12", "come 3 tea {}", "move {} 4 tea 12", "move 3 {} tea 12", "move 3 4 tea {}",
                     "let {}", "take {}", "shift {} 4", "shift 3 {}", "counted {} tea 12", "counted 3 tea {}",
                     "wish tea {}", "go {} tea 12", "hold 3 tea {}"):
            for number in ("03", "003", "00", "00000000000000000000000000000000000003", "+3", "-3", "-0", "+0", "--3",
                           "3.0", "3.", ".3", "3e0", "3e1", "1_0", "_3", "3_", "0x3", "0b1", "0o7", "three", "x", "3a",
                           "a3", "3-", "1,000", "'3'", "\"3\"", "(3)", "True", "None", "\u0663", "\u0967", "\uff13",
                           "\u00b3", "\u00b2", "\u2460", "3\u0663", "\u06633", "1\u0660", "\u2163"):
                self.check_refused(form.format(number))

    def test_nought_where_it_may_not_stand(self):
        for line in ("come 3 tea 0", "go 3 tea 0", "move 3 4 tea 0", "hold 3 tea 0", "let 0", "take 0", "shift 0 3",
                     "wish tea 0", "counted 3 tea 00"):
            self.check_refused(line)

    def test_places_beyond_their_bounds(self):
        for place in ("10000", "10001", "99999", "100000", GREATEST):
            for form in ("come {} tea 12", "go {} tea 12", "move {} 4 tea 12", "move 3 {} tea 12", "hold {} tea 12",
                         "shift 3 {}", "counted {} tea 12"):
                self.check_refused(form.format(place))

    def test_amounts_and_numbers_beyond_their_bounds(self):
        for many in (str(GREAT + 1), "2" + "0" * 30, "9" * 31, GREATEST + "0", "1" * 100, "9" * 5000):
            for form in ("come 3 tea {}", "go 3 tea {}", "move 3 4 tea {}", "hold 3 tea {}", "let {}", "take {}",
                         "shift {} 4", "counted 3 tea {}", "wish tea {}"):
                line = form.format(many)
                with self.assertRaises(NoLine):
                    read(line)

    def test_wares_that_are_none(self):
        for ware in NO_WARES:
            if isinstance(ware, str):
                for form in ("come 3 {} 12", "go 3 {} 12", "move 3 4 {} 12", "hold 3 {} 12", "counted 3 {} 12",
                             "wish {} 12"):
                    self.check_refused(form.format(ware))

    def test_what_is_no_text(self):
        for line in (None, True, 3, b"let 1", ["let 1"], ["let", "1"], ("let", 1), (), [], {}):
            self.check_refused(line)


class EveryText(unittest.TestCase):
    """Texts near those of entries: what is read is written so, and nothing else is read."""

    def check_text(self, line):
        try:
            entry = read(line)
        except NoLine:
            self.assertIsNone(LINES.fullmatch(line), line)
        else:
            self.assertIsNotNone(LINES.fullmatch(line), line)
            self.assertEqual(shown(entry), line)

    def test_one_sign_more_less_or_another(self):
        for line in ("come 3 tea 12", "let 10", "shift 10 9", "counted 0 a 0", "wish tea 100", "move 1 20 a 3"):
            for at in range(len(line) + 1):
                self.check_text(line[:at] + line[at + 1:])
                for sign in SIGNS:
                    self.check_text(line[:at] + sign + line[at:])
                    self.check_text(line[:at] + sign + line[at + 1:])

    def test_one_sign_more_at_the_bounds(self):
        for _, line in PAIRS:
            for at in range(len(line) + 1):
                for sign in "0129a ":
                    self.check_text(line[:at] + sign + line[at:])
                    self.check_text(line[:at] + sign + line[at + 1:])

    def test_every_short_line_of_some_parts(self):
        words = ("come", "let", "shift", "counted", "wish", "move", "", "0", "7", "10000", "tea", "07", "Tea")
        for first in words:
            for second in words:
                self.check_text(first + " " + second)
                for third in words:
                    self.check_text(" ".join((first, second, third)))
                    for fourth in words:
                        self.check_text(" ".join((first, second, third, fourth)))


class NotShown(unittest.TestCase):
    """The document lists no text for these; promises 2, 8 and 11 tell their refusals."""

    def check_refused(self, entry, refusal):
        with self.subTest(entry=entry):
            with self.assertRaises(refusal) as caught:
                shown(entry)
            self.assertIs(type(caught.exception), refusal)

    def test_what_is_no_entry(self):
        for entry in NO_ENTRIES:
            self.check_refused(entry, NoEntry)

    def test_what_is_no_ware_no_place_and_no_amount(self):
        for ware in NO_WARES:
            for entry in (("come", 3, ware, 1), ("move", 3, 4, ware, 1), ("counted", 3, ware, 1), ("wish", ware, 1)):
                self.check_refused(entry, BadWare)
        for place in NO_PLACES:
            for entry in (("go", place, "tea", 1), ("move", place, 4, "tea", 1), ("move", 3, place, "tea", 1),
                          ("shift", 1, place), ("counted", place, "tea", 1)):
                self.check_refused(entry, BadPlace)
        for many in NO_AMOUNTS:
            for entry in (("hold", 3, "tea", many), ("move", 3, 4, "tea", many), ("wish", "tea", many)):
                self.check_refused(entry, BadMany)
        for many in NO_COUNTS:
            self.check_refused(("counted", 3, "tea", many), BadMany)

    def test_what_can_be_no_holds_number(self):
        for number in (0, -1, True, False, None, "", "1", "tea", [1], (1,)):
            for entry in (("let", number), ("take", number), ("shift", number, 3)):
                self.check_refused(entry, NoHold)

    def test_a_number_somewhat_beyond_its_bound_is_no_error(self):
        self.assertEqual(shown(("let", GREAT + 1)), "let " + str(GREAT + 1))


if __name__ == "__main__":
    unittest.main()
