"""Come, go, move, hold, let, take and shift: promises 3, 4 and 5, and what a floor tells of them."""

import unittest

from stockfloor.errors import NoHold, SamePlace, TooFew
from stockfloor.floor import Floor
from tests.looks import FREE_TEA, GREAT, NEXT_NUMBER, PLACES, WARES, look, stocked


def amounts(floor, place, ware):
    """What is there, held and free."""
    return (floor.there(place, ware), floor.held(place, ware), floor.free(place, ware))


class NewFloor(unittest.TestCase):
    def test_at_first_there_is_nothing(self):
        floor = Floor()
        for ware in WARES:
            for place in PLACES:
                self.assertEqual(amounts(floor, place, ware), (0, 0, 0))
            self.assertEqual(floor.places(ware), [])
            for told in (floor.whole, floor.came, floor.went, floor.righted):
                self.assertEqual(told(ware), 0)
                self.assertIs(type(told(ware)), int)
        self.assertEqual(floor.numbers(), [])
        self.assertEqual(floor.book(), [])
        self.assertIsNone(floor.holding(1))

    def test_to_ask_leaves_no_trace(self):
        floor = Floor()
        floor.come(3, "tea", 1)
        ahead = look(floor)
        for _ in range(3):
            self.assertEqual(look(floor), ahead)
        self.assertEqual(floor.places("teas"), [])

    def test_two_floors_have_nothing_in_common(self):
        first, second = Floor(), Floor()
        first.come(3, "tea", 5)
        first.hold(3, "tea", 2)
        self.assertEqual(look(second), look(Floor()))
        second.come(3, "tea", 1)
        self.assertEqual(second.hold(3, "tea", 1), 1)
        self.assertEqual(amounts(first, 3, "tea"), (5, 2, 3))


class Come(unittest.TestCase):
    def test_an_amount_more_is_there(self):
        floor = Floor()
        self.assertIsNone(floor.come(3, "tea", 12))
        self.assertEqual(amounts(floor, 3, "tea"), (12, 0, 12))
        self.assertIsNone(floor.come(3, "tea", 5))
        self.assertEqual(amounts(floor, 3, "tea"), (17, 0, 17))

    def test_what_is_held_stays_held(self):
        floor = Floor()
        floor.come(3, "tea", 5)
        floor.hold(3, "tea", 5)
        floor.come(3, "tea", 2)
        self.assertEqual(amounts(floor, 3, "tea"), (7, 5, 2))

    def test_two_places_of_one_ware(self):
        floor = Floor()
        floor.come(3, "tea", 12)
        floor.come(30, "tea", 7)
        self.assertEqual(amounts(floor, 3, "tea"), (12, 0, 12))
        self.assertEqual(amounts(floor, 30, "tea"), (7, 0, 7))
        self.assertEqual(amounts(floor, 0, "tea"), (0, 0, 0))
        self.assertEqual(floor.whole("tea"), 19)

    def test_two_wares_in_one_place(self):
        floor = Floor()
        floor.come(3, "tea", 12)
        floor.come(3, "coffee", 7)
        self.assertEqual(amounts(floor, 3, "tea"), (12, 0, 12))
        self.assertEqual(amounts(floor, 3, "coffee"), (7, 0, 7))

    def test_wares_of_which_one_begins_with_the_other_or_has_its_letters(self):
        floor = Floor()
        wares = ("tea", "teas", "te", "eat", "ate", "eta", "seat", "t", "aet")
        for at, ware in enumerate(wares):
            floor.come(3, ware, at + 1)
        floor.hold(3, "teas", 2)
        floor.go(3, "eat", 3)
        floor.move(3, 4, "ate", 5)
        for at, ware in enumerate(wares):
            gone = {"eat": 3, "ate": 5}.get(ware, 0)
            held = {"teas": 2}.get(ware, 0)
            with self.subTest(ware):
                self.assertEqual(amounts(floor, 3, ware), (at + 1 - gone, held, at + 1 - gone - held))
                self.assertEqual(floor.there(4, ware), 5 if ware == "ate" else 0)


class Go(unittest.TestCase):
    def test_a_part_and_then_just_what_is_free(self):
        floor = Floor()
        floor.come(3, "tea", 12)
        self.assertIsNone(floor.go(3, "tea", 5))
        self.assertEqual(amounts(floor, 3, "tea"), (7, 0, 7))
        self.assertIsNone(floor.go(3, "tea", 7))
        self.assertEqual(amounts(floor, 3, "tea"), (0, 0, 0))
        self.assertEqual(floor.places("tea"), [])

    def test_one_more_than_is_free(self):
        floor = Floor()
        floor.come(3, "tea", 12)
        ahead = look(floor)
        self.assertRaises(TooFew, floor.go, 3, "tea", 13)
        self.assertEqual(look(floor), ahead)

    def test_with_a_part_held(self):
        floor = stocked()
        self.assertRaises(TooFew, floor.go, 3, "tea", FREE_TEA + 1)
        floor.go(3, "tea", FREE_TEA)
        self.assertEqual(amounts(floor, 3, "tea"), (5, 5, 0))
        self.assertRaises(TooFew, floor.go, 3, "tea", 1)

    def test_where_the_ware_is_in_another_place_only(self):
        floor = Floor()
        floor.come(3, "tea", 12)
        self.assertRaises(TooFew, floor.go, 4, "tea", 1)
        self.assertRaises(TooFew, floor.go, 3, "teas", 1)


class Move(unittest.TestCase):
    def test_from_one_place_to_another(self):
        floor = Floor()
        floor.come(3, "tea", 12)
        self.assertIsNone(floor.move(3, 4, "tea", 5))
        self.assertEqual(amounts(floor, 3, "tea"), (7, 0, 7))
        self.assertEqual(amounts(floor, 4, "tea"), (5, 0, 5))
        floor.move(4, 3, "tea", 5)
        self.assertEqual(amounts(floor, 3, "tea"), (12, 0, 12))
        self.assertEqual(floor.places("tea"), [3])

    def test_just_what_is_free_and_one_more(self):
        for goal in (0, 4, 9999):
            floor = stocked()
            was = floor.there(goal, "tea")
            self.assertRaises(TooFew, floor.move, 3, goal, "tea", FREE_TEA + 1)
            floor.move(3, goal, "tea", FREE_TEA)
            self.assertEqual(amounts(floor, 3, "tea"), (5, 5, 0))
            self.assertEqual(amounts(floor, goal, "tea"), (was + FREE_TEA, 0, was + FREE_TEA))
            self.assertEqual(floor.whole("tea"), 16)

    def test_what_is_free_in_the_goal_does_not_count(self):
        floor = Floor()
        floor.come(3, "tea", 2)
        floor.come(4, "tea", 100)
        self.assertRaises(TooFew, floor.move, 3, 4, "tea", 3)
        self.assertRaises(TooFew, floor.move, 5, 4, "tea", 1)

    def test_to_the_same_place(self):
        floor = stocked()
        ahead = look(floor)
        for place in (0, 3, 9999):
            for many in (1, FREE_TEA, 100, GREAT):
                self.assertRaises(SamePlace, floor.move, place, place, "tea", many)
        self.assertEqual(look(floor), ahead)

    def test_places_beyond_those_that_python_keeps_once(self):
        floor = Floor()
        floor.come(int("5000"), "tea", 2)
        self.assertRaises(SamePlace, floor.move, int("5000"), int("5000"), "tea", 1)

    def test_other_wares_stay(self):
        floor = stocked()
        floor.move(3, 4, "tea", 1)
        self.assertEqual(amounts(floor, 3, "teas"), (13, 0, 13))
        self.assertEqual(amounts(floor, 4, "teas"), (0, 0, 0))
        self.assertEqual(amounts(floor, 4, "eat"), (30, 30, 0))


class Hold(unittest.TestCase):
    def test_what_is_held_is_there_and_not_free(self):
        floor = Floor()
        floor.come(3, "tea", 12)
        self.assertEqual(floor.hold(3, "tea", 5), 1)
        self.assertEqual(amounts(floor, 3, "tea"), (12, 5, 7))
        self.assertEqual(floor.holding(1), (3, "tea", 5))
        self.assertEqual(floor.numbers(), [1])

    def test_just_what_is_free_and_one_more(self):
        floor = stocked()
        self.assertRaises(TooFew, floor.hold, 3, "tea", FREE_TEA + 1)
        self.assertEqual(floor.hold(3, "tea", FREE_TEA), NEXT_NUMBER)
        self.assertEqual(amounts(floor, 3, "tea"), (10, 10, 0))
        self.assertRaises(TooFew, floor.hold, 3, "tea", 1)
        self.assertRaises(TooFew, floor.hold, 5, "tea", 1)

    def test_each_hold_has_the_next_number(self):
        floor = Floor()
        floor.come(3, "tea", 12)
        floor.come(4, "coffee", 12)
        self.assertEqual([floor.hold(3, "tea", 1), floor.hold(4, "coffee", 2), floor.hold(3, "tea", 3)], [1, 2, 3])
        self.assertEqual(floor.numbers(), [1, 2, 3])
        self.assertEqual([floor.holding(number) for number in (1, 2, 3)],
                         [(3, "tea", 1), (4, "coffee", 2), (3, "tea", 3)])

    def test_no_number_is_given_twice(self):
        floor = Floor()
        floor.come(3, "tea", 12)
        self.assertEqual([floor.hold(3, "tea", 1) for _ in range(3)], [1, 2, 3])
        floor.let(3)
        self.assertEqual(floor.hold(3, "tea", 1), 4)
        floor.take(4)
        self.assertEqual(floor.hold(3, "tea", 1), 5)
        for number in (1, 2, 5):
            floor.let(number)
        self.assertEqual(floor.numbers(), [])
        self.assertEqual(floor.hold(3, "tea", 1), 6)
        floor.counted(3, "tea", 0)
        floor.come(3, "tea", 5)
        self.assertEqual(floor.hold(3, "tea", 1), 7)
        self.assertEqual(floor.wish("tea", 1), [8])
        self.assertEqual(floor.hold(3, "tea", 1), 9)

    def test_a_refused_deed_gives_no_number(self):
        floor = Floor()
        floor.come(3, "tea", 2)
        for _ in range(3):
            self.assertRaises(TooFew, floor.hold, 3, "tea", 3)
            self.assertRaises(TooFew, floor.wish, "tea", 3)
        self.assertEqual(floor.hold(3, "tea", 1), 1)
        self.assertRaises(TooFew, floor.hold, 3, "tea", 2)
        self.assertRaises(NoHold, floor.let, 2)
        self.assertRaises(SamePlace, floor.shift, 1, 3)
        self.assertEqual(floor.hold(3, "tea", 1), 2)

    def test_the_number_is_a_whole_number(self):
        floor = Floor()
        floor.come(3, "tea", 2)
        self.assertIs(type(floor.hold(3, "tea", 1)), int)


class Let(unittest.TestCase):
    def test_what_it_held_is_free(self):
        floor = stocked()
        self.assertIsNone(floor.let(1))
        self.assertEqual(amounts(floor, 3, "tea"), (10, 1, 9))
        self.assertIsNone(floor.holding(1))
        self.assertEqual(floor.numbers(), [3, 4])
        floor.go(3, "tea", 9)

    def test_a_hold_that_is_over_or_never_was(self):
        floor = stocked()
        ahead = look(floor)
        for number in (2, 5, 6, 0, -1, GREAT):
            self.assertRaises(NoHold, floor.let, number)
        self.assertEqual(look(floor), ahead)
        floor.let(1)
        self.assertRaises(NoHold, floor.let, 1)
        self.assertEqual(amounts(floor, 3, "tea"), (10, 1, 9))


class Take(unittest.TestCase):
    def test_what_it_held_is_there_no_more(self):
        floor = stocked()
        self.assertIsNone(floor.take(1))
        self.assertEqual(amounts(floor, 3, "tea"), (6, 1, 5))
        self.assertIsNone(floor.holding(1))
        self.assertEqual(floor.numbers(), [3, 4])

    def test_all_there_is(self):
        floor = stocked()
        floor.take(3)
        self.assertEqual(amounts(floor, 4, "eat"), (0, 0, 0))
        self.assertEqual(floor.places("eat"), [])
        self.assertEqual(floor.whole("eat"), 0)

    def test_a_hold_that_is_over_or_never_was(self):
        floor = stocked()
        ahead = look(floor)
        for number in (2, 5, 6, 0, -1, GREAT):
            self.assertRaises(NoHold, floor.take, number)
        self.assertEqual(look(floor), ahead)
        floor.take(1)
        self.assertRaises(NoHold, floor.take, 1)
        self.assertRaises(NoHold, floor.let, 1)
        self.assertRaises(NoHold, floor.shift, 1, 5)


class Shift(unittest.TestCase):
    def test_it_is_held_in_the_other_place_under_the_same_number(self):
        floor = stocked()
        self.assertIsNone(floor.shift(1, 4))
        self.assertEqual(amounts(floor, 3, "tea"), (6, 1, 5))
        self.assertEqual(amounts(floor, 4, "tea"), (10, 4, 6))
        self.assertEqual(floor.holding(1), (4, "tea", 4))
        self.assertEqual(floor.numbers(), [1, 3, 4])
        self.assertEqual(floor.hold(3, "tea", 1), NEXT_NUMBER)

    def test_it_may_be_shifted_again_let_and_taken_there(self):
        floor = stocked()
        floor.shift(1, 9999)
        floor.shift(1, 0)
        self.assertEqual(floor.holding(1), (0, "tea", 4))
        self.assertEqual(amounts(floor, 9999, "tea"), (0, 0, 0))
        floor.shift(4, 0)
        self.assertEqual(amounts(floor, 0, "tea"), (5, 5, 0))
        floor.take(1)
        self.assertEqual(amounts(floor, 0, "tea"), (1, 1, 0))
        floor.let(4)
        self.assertEqual(amounts(floor, 0, "tea"), (1, 0, 1))
        self.assertEqual(floor.places("tea"), [0, 3, 4])

    def test_where_nothing_else_is_free(self):
        floor = stocked()
        floor.shift(3, 3)
        self.assertEqual(amounts(floor, 4, "eat"), (0, 0, 0))
        self.assertEqual(amounts(floor, 3, "eat"), (30, 30, 0))

    def test_to_the_same_place(self):
        floor = stocked()
        ahead = look(floor)
        self.assertRaises(SamePlace, floor.shift, 1, 3)
        self.assertRaises(SamePlace, floor.shift, 3, 4)
        self.assertEqual(look(floor), ahead)
        floor.shift(1, 4)
        self.assertRaises(SamePlace, floor.shift, 1, 4)
        floor.shift(1, 3)

    def test_a_hold_that_is_over_or_never_was(self):
        floor = stocked()
        ahead = look(floor)
        for number in (2, 5, 6, 0, -1, GREAT):
            self.assertRaises(NoHold, floor.shift, number, 9)
        self.assertEqual(look(floor), ahead)


class NoNumbers(unittest.TestCase):
    VALUES = (True, False, None, "", "1", "tea", [], [1], (), (1,), {}, {1: 1}, b"1", 1.0, object(), Floor)

    def test_whatever_is_handed_in_as_a_number(self):
        floor = stocked()
        ahead = look(floor)
        for value in self.VALUES:
            with self.subTest(value=value):
                self.assertIsNone(floor.holding(value))
                for deed in (floor.let, floor.take):
                    with self.assertRaises(NoHold) as caught:
                        deed(value)
                    self.assertIs(type(caught.exception), NoHold)
                for goal in (0, 3, 4, -1, None):
                    self.assertRaises(NoHold, floor.shift, value, goal)
        self.assertEqual(look(floor), ahead)

    def test_on_a_new_floor(self):
        floor = Floor()
        for value in (*self.VALUES, 0, 1, -1):
            self.assertIsNone(floor.holding(value))
            self.assertRaises(NoHold, floor.let, value)
            self.assertRaises(NoHold, floor.take, value)
            self.assertRaises(NoHold, floor.shift, value, 3)
        self.assertEqual(floor.book(), [])


class Told(unittest.TestCase):
    def test_places_are_those_where_some_is_there_rising(self):
        floor = Floor()
        for place in (10, 9, 100, 9999, 0, 2):
            floor.come(place, "tea", 1)
        floor.come(50, "teas", 1)
        self.assertEqual(floor.places("tea"), [0, 2, 9, 10, 100, 9999])
        floor.go(9, "tea", 1)
        floor.counted(100, "tea", 0)
        floor.move(10, 11, "tea", 1)
        floor.hold(0, "tea", 1)
        self.assertEqual(floor.places("tea"), [0, 2, 11, 9999])
        floor.take(1)
        self.assertEqual(floor.places("tea"), [2, 11, 9999])
        self.assertEqual(floor.places("teas"), [50])
        self.assertEqual(floor.places("te"), [])

    def test_numbers_rise(self):
        floor = Floor()
        floor.come(1, "tea", 100)
        for _ in range(12):
            floor.hold(1, "tea", 1)
        for number in (3, 11, 1):
            floor.let(number)
        for number in (12, 2, 7):
            floor.shift(number, 2)
        self.assertEqual(floor.numbers(), [2, 4, 5, 6, 7, 8, 9, 10, 12])

    def test_holding_is_a_tuple_of_a_standing_hold_only(self):
        floor = stocked()
        self.assertEqual(floor.holding(1), (3, "tea", 4))
        self.assertIs(type(floor.holding(1)), tuple)
        self.assertEqual(floor.holding(3), (4, "eat", 30))
        for number in (0, -1, 2, 5, 6, GREAT, GREAT * GREAT):
            self.assertIsNone(floor.holding(number))

    def test_whole_is_what_is_there_in_all_places(self):
        floor = stocked()
        self.assertEqual([floor.whole(ware) for ware in ("tea", "teas", "eat", "te")], [16, 13, 30, 0])

    def test_lists_that_come_back_are_new_ones(self):
        floor = stocked()
        ahead = look(floor)
        for ask in (floor.book, floor.numbers, lambda: floor.places("tea"), lambda: floor.places("none")):
            first = ask()
            self.assertIs(type(first), list)
            self.assertIsNot(ask(), first)
            first.append("mine")
            first.reverse()
            self.assertEqual(look(floor), ahead)
            first.clear()
            self.assertEqual(look(floor), ahead)

    def test_a_list_that_came_back_stays_as_it_was(self):
        floor = stocked()
        kept = (floor.book(), floor.numbers(), floor.places("tea"))
        were = [list(one) for one in kept]
        floor.come(7, "tea", 3)
        floor.hold(7, "tea", 3)
        self.assertEqual([list(one) for one in kept], were)

    def test_the_lists_that_deeds_tell_are_new_ones(self):
        floor = stocked()
        twin = stocked()
        wished = floor.wish("tea", 7)
        self.assertEqual(wished, twin.wish("tea", 7))
        lost = floor.counted(3, "tea", 1)
        self.assertEqual(lost, twin.counted(3, "tea", 1))
        wished.clear()
        lost.clear()
        self.assertEqual(look(floor), look(twin))


if __name__ == "__main__":
    unittest.main()
