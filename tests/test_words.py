"""What a ware, a place and an amount are: promise 2, by each deed that takes one."""

import unittest

from stockfloor.errors import BadMany, BadPlace, BadWare
from stockfloor.floor import Floor
from tests.looks import GREAT, NO_AMOUNTS, NO_COUNTS, NO_PLACES, NO_WARES, look, stocked

LETTERS = "abcdefghijklmnopqrstuvwxyz"

GOOD_WARES = (*LETTERS, "az", "tea", LETTERS[:20], LETTERS[6:], "a" * 20, "z" * 20, "zyxwvutsrqponmlkjihg")
GOOD_PLACES = (0, 1, 9, 10, 255, 256, 257, 9998, 9999)
GOOD_AMOUNTS = (1, 2, 9, 10, 2 ** 31, 2 ** 63, 2 ** 64, GREAT - 1, GREAT)

TAKE_WARE = {
    "come": lambda floor, ware: floor.come(3, ware, 2),
    "go": lambda floor, ware: floor.go(3, ware, 2),
    "move": lambda floor, ware: floor.move(3, 4, ware, 2),
    "hold": lambda floor, ware: floor.hold(3, ware, 2),
    "counted": lambda floor, ware: floor.counted(3, ware, 2),
    "wish": lambda floor, ware: floor.wish(ware, 2),
}

# Place 5 is where nothing is, so that it may be a goal.
TAKE_PLACE = {
    "come": lambda floor, place: floor.come(place, "tea", 2),
    "go": lambda floor, place: floor.go(place, "tea", 2),
    "move, start": lambda floor, place: floor.move(place, 5, "tea", 2),
    "move, goal": lambda floor, place: floor.move(3, place, "tea", 2),
    "hold": lambda floor, place: floor.hold(place, "tea", 2),
    "shift": lambda floor, place: floor.shift(1, place),
    "counted": lambda floor, place: floor.counted(place, "tea", 2),
}

TAKE_AMOUNT = {
    "come": lambda floor, many: floor.come(3, "tea", many),
    "go": lambda floor, many: floor.go(3, "tea", many),
    "move": lambda floor, many: floor.move(3, 4, "tea", many),
    "hold": lambda floor, many: floor.hold(3, "tea", many),
    "wish": lambda floor, many: floor.wish("tea", many),
}


class Words(unittest.TestCase):
    def check_refused(self, deeds, values, refusal):
        floor = stocked()
        ahead = look(floor)
        for name, deed in deeds.items():
            for value in values:
                with self.subTest(deed=name, value=value):
                    with self.assertRaises(refusal) as caught:
                        deed(floor, value)
                    self.assertIs(type(caught.exception), refusal)
                    self.assertEqual(floor.book(), ahead["book"])
        self.assertEqual(look(floor), ahead)


class Wares(Words):
    def test_what_is_a_ware(self):
        for name, deed in TAKE_WARE.items():
            for ware in GOOD_WARES:
                with self.subTest(deed=name, ware=ware):
                    floor = Floor()
                    floor.come(3, ware, 2)
                    deed(floor, ware)
                    self.assertEqual(len(floor.book()), 2)
                    self.assertIn(ware, floor.book()[1])

    def test_what_is_none(self):
        self.check_refused(TAKE_WARE, NO_WARES, BadWare)

    def test_each_sign_of_ascii_at_each_place_of_a_ware(self):
        for code in range(128):
            for ware in (chr(code), chr(code) + "ea", "t" + chr(code) + "a", "te" + chr(code)):
                with self.subTest(ware=ware):
                    floor = Floor()
                    if chr(code) in LETTERS:
                        floor.come(3, ware, 2)
                        self.assertEqual(floor.whole(ware), 2)
                    else:
                        self.assertRaises(BadWare, floor.come, 3, ware, 2)

    def test_each_length(self):
        for length in range(30):
            with self.subTest(length):
                floor = Floor()
                if 1 <= length <= 20:
                    floor.come(3, "q" * length, 2)
                    self.assertEqual(floor.there(3, "q" * length), 2)
                else:
                    self.assertRaises(BadWare, floor.come, 3, "q" * length, 2)


class Places(Words):
    def test_what_is_a_place(self):
        for name, deed in TAKE_PLACE.items():
            for place in GOOD_PLACES:
                with self.subTest(deed=name, place=place):
                    floor = stocked()
                    floor.come(place, "tea", 2)
                    deed(floor, place)
                    self.assertEqual(len(floor.book()), len(stocked().book()) + 2)

    def test_what_is_none(self):
        self.check_refused(TAKE_PLACE, NO_PLACES, BadPlace)


class Amounts(Words):
    def test_what_is_an_amount(self):
        for name, deed in TAKE_AMOUNT.items():
            for many in GOOD_AMOUNTS:
                with self.subTest(deed=name, many=many):
                    floor = Floor()
                    floor.come(3, "tea", GREAT)
                    deed(floor, many)
                    self.assertIn(many, floor.book()[1])

    def test_what_is_none(self):
        self.check_refused(TAKE_AMOUNT, NO_AMOUNTS, BadMany)

    def test_what_may_have_been_counted(self):
        for many in (0, *GOOD_AMOUNTS):
            with self.subTest(many):
                floor = stocked()
                floor.counted(3, "tea", many)
                self.assertEqual(floor.there(3, "tea"), many)

    def test_what_may_not_have_been_counted(self):
        self.check_refused({"counted": lambda floor, many: floor.counted(3, "tea", many)}, NO_COUNTS, BadMany)

    def test_a_count_of_nought_where_nothing_ever_was(self):
        floor = Floor()
        self.assertEqual(floor.counted(0, "tea", 0), [])
        self.assertEqual(floor.book(), [("counted", 0, "tea", 0)])

    def test_what_is_there_grows_beyond_the_greatest_amount(self):
        floor = Floor()
        for _ in range(3):
            floor.come(3, "tea", GREAT)
        self.assertEqual(floor.there(3, "tea"), 3 * GREAT)
        self.assertEqual(floor.free(3, "tea"), 3 * GREAT)
        self.assertEqual(floor.whole("tea"), 3 * GREAT)
        self.assertEqual(floor.came("tea"), 3 * GREAT)

    def test_what_is_held_and_what_went_grow_beyond_the_greatest_amount(self):
        floor = Floor()
        for _ in range(4):
            floor.come(3, "tea", GREAT)
            floor.hold(3, "tea", GREAT)
        self.assertEqual(floor.held(3, "tea"), 4 * GREAT)
        self.assertEqual(floor.free(3, "tea"), 0)
        for number in (1, 2, 3):
            floor.take(number)
        self.assertEqual(floor.went("tea"), 3 * GREAT)
        self.assertEqual(floor.held(3, "tea"), GREAT)

    def test_what_was_put_right_grows_beyond_the_greatest_amount(self):
        floor = Floor()
        for _ in range(3):
            floor.come(3, "tea", GREAT)
        self.assertEqual(floor.counted(3, "tea", 0), [])
        self.assertEqual(floor.righted("tea"), -3 * GREAT)
        for place in range(5):
            floor.counted(place, "tea", GREAT)
        self.assertEqual(floor.righted("tea"), 2 * GREAT)
        self.assertEqual(floor.whole("tea"), 5 * GREAT)

    def test_a_hold_loses_beyond_the_greatest_amount_in_all(self):
        floor = Floor()
        for _ in range(3):
            floor.come(3, "tea", GREAT)
            floor.hold(3, "tea", GREAT)
        self.assertEqual(floor.counted(3, "tea", 1), [(3, GREAT), (2, GREAT), (1, GREAT - 1)])


class Kinds(unittest.TestCase):
    def test_true_is_not_taken_for_the_place_1(self):
        floor = Floor()
        floor.come(1, "tea", 5)
        for deed in (floor.go, floor.hold, floor.counted, floor.come):
            with self.assertRaises(BadPlace):
                deed(True, "tea", 1)
        self.assertEqual(floor.book(), [("come", 1, "tea", 5)])

    def test_what_is_handed_in_stays_as_it_was(self):
        floor = stocked()
        for value in (["tea"], [3], [["tea"]], {"tea": 3}):
            before = repr(value)
            for deed in (floor.come, floor.go, floor.hold, floor.counted):
                with self.assertRaises(BadWare):
                    deed(3, value, 1)
                with self.assertRaises(BadPlace):
                    deed(value, "tea", 1)
                with self.assertRaises(BadMany):
                    deed(3, "tea", value)
            self.assertIsNone(floor.holding(value))
            self.assertEqual(repr(value), before)


if __name__ == "__main__":
    unittest.main()
