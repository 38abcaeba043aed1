"""The book and what is done from it anew: promises 10 and 11."""

import unittest

from stockfloor.book import done, fault, replayed
from stockfloor.errors import BadMany, BadPlace, BadWare, NoEntry, NoHold, SamePlace, StockError, TooFew
from stockfloor.floor import Floor
from tests.looks import GREAT, NEXT_NUMBER, look, stocked

# Each kind of deed, with what it hands back.
STEPS = (
    (("come", 3, "tea", 12), None),
    (("come", 4, "tea", 7), None),
    (("hold", 3, "tea", 5), 1),
    (("go", 3, "tea", 1), None),
    (("move", 3, 5, "tea", 2), None),
    (("wish", "tea", 10), [2, 3]),
    (("let", 1), None),
    (("shift", 2, 9999), None),
    (("counted", 9999, "tea", 4), [(2, 3)]),
    (("take", 3), None),
    (("hold", 3, "tea", 1), 4),
    (("counted", 0, "coffee", 0), []),
)

NO_ENTRIES = (
    (), ("",), ("come",), ("none",), ("let",), ("take",), ("shift",), ("wish",),
    ("come", 3, "tea"), ("come", 3, "tea", 1, 1), ("come", 3), ("come", "tea", 1), ("come", 3, 4, "tea", 1),
    ("go", 3, "tea"), ("go", 3, "tea", 1, None),
    ("move", 3, "tea", 1), ("move", 3, 4, "tea"), ("move", 3, 4, "tea", 1, 1),
    ("hold", 3, "tea"), ("hold", 3, "tea", 1, 1),
    ("let", 1, 1), ("let", 1, None), ("take", 1, 3), ("take", 3, "tea", 1),
    ("shift", 1), ("shift", 1, 4, 4), ("shift", 3, 4, "tea", 1),
    ("counted", 3, "tea"), ("counted", 3, "tea", 1, 1), ("counted", "tea", 1),
    ("wish", "tea"), ("wish", 3, "tea", 1), ("wish", "tea", 1, 1),
    ("Come", 3, "tea", 1), ("COME", 3, "tea", 1), (" come", 3, "tea", 1), ("come ", 3, "tea", 1),
    ("come\n", 3, "tea", 1), ("com", 3, "tea", 1), ("comes", 3, "tea", 1), ("count", 3, "tea", 1),
    ("there", 3, "tea"), ("numbers",), ("book",), ("holding", 1), ("places", "tea"), ("free", 3, "tea"),
    ("__init__",), ("_standing", 1),
    (None, 3, "tea", 1), (1, 1), (True, 1), (0,), (b"come", 3, "tea", 1), (["come"], 3, "tea", 1),
    (("come",), 3, "tea", 1), (("come", 3, "tea", 1),), (("let", 1),), ({}, 1), ([], 1), (("let",), 1),
    ("come", (3, "tea", 1)), ("let", (1,), 1), (3, "tea", 1, "come"),
    None, True, False, 0, 1, "", "come", "come 3 tea 1", "let 1", b"let 1",
    [], ["come", 3, "tea", 1], ["let", 1], [("let", 1)], {}, {"come": 3}, {"let": 1}, object(), Floor,
)

# Entries that are refused as their deed, on the floor of stocked().
REFUSED = (
    (("come", 3, "Tea", 1), BadWare),
    (("come", -1, "tea", 1), BadPlace),
    (("come", "tea", 3, 1), BadWare),
    (("come", 3, "tea", 0), BadMany),
    (("come", (3,), "tea", 1), BadPlace),
    (("come", 3, ("tea",), 1), BadWare),
    (("come", 3, ["tea"], 1), BadWare),
    (("come", 3, "tea", ("1",)), BadMany),
    (("come", True, "tea", 1), BadPlace),
    (("go", 3, "tea", 6), TooFew),
    (("go", 3, "tea", True), BadMany),
    (("move", 3, 3, "tea", 1), SamePlace),
    (("move", 3, 10000, "tea", 1), BadPlace),
    (("move", 3, 4, "tea", 6), TooFew),
    (("hold", 4, "eat", 1), TooFew),
    (("hold", None, "eat", 1), BadPlace),
    (("let", 2), NoHold),
    (("let", "1"), NoHold),
    (("let", (1,)), NoHold),
    (("let", [1]), NoHold),
    (("let", None), NoHold),
    (("let", True), NoHold),
    (("take", 5), NoHold),
    (("take", {}), NoHold),
    (("shift", 6, 3), NoHold),
    (("shift", 1, 3), SamePlace),
    (("shift", 1, "4"), BadPlace),
    (("counted", 3, "tea", -1), BadMany),
    (("counted", 3, "", 1), BadWare),
    (("wish", "tea", 12), TooFew),
    (("wish", 3, 1), BadWare),
    (("wish", "tea", GREAT + 1), BadMany),
)


class Book(unittest.TestCase):
    def test_the_entry_of_each_deed(self):
        floor = Floor()
        expected = []
        for entry, told in STEPS:
            with self.subTest(entry):
                self.assertEqual(getattr(floor, entry[0])(*entry[1:]), told)
                expected.append(entry)
                self.assertEqual(floor.book(), expected)
                self.assertIs(type(floor.book()[-1]), tuple)

    def test_the_entries_with_arguments_by_their_names(self):
        floor = Floor()
        floor.come(many=9, ware="tea", place=3)
        floor.go(many=1, ware="tea", place=3)
        floor.move(many=2, ware="tea", goal=4, start=3)
        self.assertEqual(floor.hold(many=3, ware="tea", place=3), 1)
        floor.shift(goal=5, number=1)
        self.assertEqual(floor.counted(many=2, ware="tea", place=5), [(1, 1)])
        self.assertEqual(floor.wish(many=2, ware="tea"), [2])
        floor.let(number=1)
        floor.take(number=2)
        self.assertEqual(floor.book(), [
            ("come", 3, "tea", 9), ("go", 3, "tea", 1), ("move", 3, 4, "tea", 2), ("hold", 3, "tea", 3),
            ("shift", 1, 5), ("counted", 5, "tea", 2), ("wish", "tea", 2), ("let", 1), ("take", 2)])
        told = (floor.there(place=3, ware="tea"), floor.held(place=3, ware="tea"), floor.free(place=3, ware="tea"),
                floor.whole(ware="tea"), floor.came(ware="tea"), floor.went(ware="tea"), floor.righted(ware="tea"),
                floor.places(ware="tea"), floor.holding(number=2))
        self.assertEqual(told, (1, 0, 1, 5, 9, 3, -1, [3, 4, 5], None))

    def test_refused_deeds_are_not_in_it(self):
        floor = Floor()
        kept = []
        for at, (entry, _) in enumerate(STEPS):
            for refused in (("go", 77, "tea", 1), ("let", 99), ("come", 3, "tea", 0), ("none",),
                            ("move", 1, 1, "a", 1)):
                self.assertRaises(StockError, done, floor, refused)
            done(floor, entry)
            kept.append(entry)
            self.assertEqual(floor.book(), kept)

    def test_a_deed_that_changes_nothing_else_stands_in_it_too(self):
        floor = Floor()
        floor.counted(3, "tea", 0)
        floor.counted(3, "tea", 0)
        self.assertEqual(floor.book(), [("counted", 3, "tea", 0)] * 2)


class Done(unittest.TestCase):
    def test_what_the_deed_gives(self):
        floor, twin = Floor(), Floor()
        for entry, told in STEPS:
            with self.subTest(entry):
                self.assertEqual(done(floor, entry), told)
                getattr(twin, entry[0])(*entry[1:])
                self.assertEqual(look(floor), look(twin))

    def test_by_the_names_of_its_arguments(self):
        floor = Floor()
        self.assertIsNone(done(entry=("come", 3, "tea", 2), floor=floor))
        self.assertEqual(replayed(book=floor.book()).book(), floor.book())
        self.assertIsNone(fault(book=floor.book()))

    def test_what_is_no_entry(self):
        floor = stocked()
        ahead = look(floor)
        for entry in NO_ENTRIES:
            with self.subTest(entry=entry):
                with self.assertRaises(NoEntry) as caught:
                    done(floor, entry)
                self.assertIs(type(caught.exception), NoEntry)
        self.assertEqual(look(floor), ahead)
        self.assertEqual(floor.hold(3, "tea", 1), NEXT_NUMBER)

    def test_each_word_with_each_number_of_parts(self):
        parts = {"come": 3, "go": 3, "move": 4, "hold": 3, "let": 1, "take": 1, "shift": 2, "counted": 3, "wish": 2}
        for word, right in parts.items():
            for count in range(8):
                with self.subTest(word=word, count=count):
                    # None is refused by each deed, as what it stands for.
                    with self.assertRaises(StockError) as caught:
                        done(Floor(), (word,) + (None,) * count)
                    refusal = NoHold if right == 1 or word == "shift" else BadWare
                    self.assertIs(type(caught.exception), refusal if count == right else NoEntry)

    def test_what_is_refused_as_its_deed(self):
        for entry, refusal in REFUSED:
            with self.subTest(entry=entry):
                floor = stocked()
                ahead = look(floor)
                with self.assertRaises(refusal) as caught:
                    done(floor, entry)
                self.assertIs(type(caught.exception), refusal)
                self.assertEqual(look(floor), ahead)

    def test_an_entry_stays_as_it_was(self):
        entry = ("come", [3], "tea", {"many": [1]})
        self.assertRaises(BadPlace, done, Floor(), entry)
        self.assertEqual(entry, ("come", [3], "tea", {"many": [1]}))
        wrong = ["come", 3, "tea", 1]
        self.assertRaises(NoEntry, done, Floor(), wrong)
        self.assertEqual(wrong, ["come", 3, "tea", 1])


class Replayed(unittest.TestCase):
    def test_it_tells_the_same(self):
        floor = Floor()
        for entry, _ in STEPS:
            done(floor, entry)
            anew = replayed(floor.book())
            self.assertIs(type(anew), Floor)
            self.assertIsNot(anew, floor)
            self.assertEqual(look(anew), look(floor))

    def test_the_next_hold_has_the_same_number(self):
        for floor in (stocked(), replayed([entry for entry, _ in STEPS])):
            anew = replayed(floor.book())
            floor.come(8, "tea", 3)
            anew.come(8, "tea", 3)
            self.assertEqual(anew.hold(8, "tea", 1), floor.hold(8, "tea", 1))
            self.assertEqual(anew.wish("tea", 2), floor.wish("tea", 2))
            self.assertEqual(look(anew), look(floor))

    def test_refused_deeds_among_the_done_ones_leave_no_trace(self):
        floor = Floor()
        for entry, _ in STEPS:
            for refused in (("hold", 3, "tea", GREAT), ("wish", "tea", GREAT), ("take", 99), ("shift", 1, -1)):
                self.assertRaises(StockError, done, floor, refused)
            done(floor, entry)
        anew = replayed(floor.book())
        self.assertEqual(look(anew), look(floor))
        self.assertEqual(floor.book(), [entry for entry, _ in STEPS])
        self.assertEqual(anew.hold(3, "tea", 1), floor.hold(3, "tea", 1))

    def test_an_empty_book(self):
        self.assertEqual(look(replayed([])), look(Floor()))
        self.assertEqual(replayed(Floor().book()).numbers(), [])

    def test_each_time_a_new_floor(self):
        book = [("come", 3, "tea", 5)]
        first, second = replayed(book), replayed(book)
        first.go(3, "tea", 5)
        self.assertEqual(second.there(3, "tea"), 5)
        self.assertEqual(book, [("come", 3, "tea", 5)])
        self.assertEqual(replayed(book).there(3, "tea"), 5)

    def test_the_list_stays_as_it_was_and_is_not_the_book(self):
        book = stocked().book()
        ahead = list(book)
        floor = replayed(book)
        floor.come(9, "tea", 1)
        self.assertEqual(book, ahead)
        book.clear()
        self.assertEqual(floor.book(), ahead + [("come", 9, "tea", 1)])

    def test_what_is_no_entry(self):
        good = stocked().book()
        for entry in NO_ENTRIES:
            for book in ([entry], [*good, entry], [entry, *good]):
                with self.subTest(entry=entry):
                    with self.assertRaises(NoEntry) as caught:
                        replayed(book)
                    self.assertIs(type(caught.exception), NoEntry)

    def test_what_is_refused_as_its_deed(self):
        good = stocked().book()
        for entry, refusal in REFUSED:
            for book in ([*good, entry], [*good, entry, ("none",)]):
                with self.subTest(entry=entry):
                    with self.assertRaises(refusal) as caught:
                        replayed(book)
                    self.assertIs(type(caught.exception), refusal)

    def test_the_order_matters(self):
        self.assertRaises(TooFew, replayed, [("go", 3, "tea", 1), ("come", 3, "tea", 1)])
        self.assertRaises(NoHold, replayed, [("come", 3, "tea", 1), ("let", 1), ("hold", 3, "tea", 1)])


class Fault(unittest.TestCase):
    def test_none_where_there_is_none(self):
        self.assertIsNone(fault([]))
        self.assertIsNone(fault(stocked().book()))
        self.assertIsNone(fault([entry for entry, _ in STEPS]))

    def test_the_place_of_what_is_no_entry(self):
        good = stocked().book()
        for entry in NO_ENTRIES:
            with self.subTest(entry=entry):
                self.assertEqual(fault([entry]), 0)
                self.assertEqual(fault([*good, entry]), len(good))
                self.assertEqual(fault([*good[:2], entry, *good]), 2)

    def test_the_place_of_what_is_refused_as_its_deed(self):
        good = stocked().book()
        for entry, _ in REFUSED:
            with self.subTest(entry=entry):
                self.assertEqual(fault([*good, entry]), len(good))
                self.assertEqual(fault([*good, entry, ("come", 3, "tea", 1)]), len(good))

    def test_the_first_of_several(self):
        book = [("come", 3, "tea", 5), ("go", 3, "tea", 6), None, ("let", 1), ("come", 3, "tea", 1)]
        self.assertEqual(fault(book), 1)
        self.assertEqual(fault(book[2:]), 0)
        self.assertEqual(fault([*book[:1], *book[3:]]), 1)
        self.assertIs(type(fault(book)), int)

    def test_the_first_place_is_nought_and_not_none(self):
        self.assertEqual(fault([("let", 1)]), 0)
        self.assertIsNotNone(fault([("let", 1)]))

    def test_each_one_is_done_behind_all_ahead_of_it(self):
        book = [("come", 3, "tea", 5), ("hold", 3, "tea", 5), ("take", 1), ("go", 3, "tea", 1)]
        self.assertEqual(fault(book), 3)
        self.assertEqual(fault([book[0], *book[:1], *book[1:]]), None)
        self.assertEqual(fault([book[0], book[2]]), 1)

    def test_the_list_stays_as_it_was(self):
        book = [*stocked().book(), ("let", 77), ["let", 1]]
        ahead = list(book)
        self.assertEqual(fault(book), len(book) - 2)
        self.assertEqual(fault(book), len(book) - 2)
        self.assertEqual(book, ahead)

    def test_the_fault_parts_what_can_be_replayed(self):
        for entry, refusal in REFUSED:
            book = [*stocked().book(), entry]
            at = fault(book)
            self.assertEqual(replayed(book[:at]).book(), book[:at])
            self.assertRaises(refusal, replayed, book[:at + 1])


if __name__ == "__main__":
    unittest.main()
