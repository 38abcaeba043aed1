"""An amount is held wherever it is free: promise 7 on a floor."""

import itertools
import unittest

from stockfloor.errors import TooFew
from stockfloor.floor import Floor
from stockfloor.wishes import dealt
from tests.looks import GREAT, look, stocked


def floor_with(*rooms):
    """A floor with so much tea in each of the places, which come in this order."""
    floor = Floor()
    for place, many in rooms:
        floor.come(place, "tea", many)
    return floor


class Wish(unittest.TestCase):
    def check_wish(self, floor, many, parts, first=1):
        """`parts` are the (place, amount) of the holds, in order; `first` is the first one's number."""
        numbers = floor.wish("tea", many)
        self.assertIs(type(numbers), list)
        self.assertEqual(numbers, list(range(first, first + len(parts))))
        self.assertEqual([floor.holding(number) for number in numbers], [(place, "tea", part) for place, part in parts])

    def test_one_place_that_has_enough(self):
        self.check_wish(floor_with((3, 12)), 1, [(3, 1)])
        self.check_wish(floor_with((3, 12)), 12, [(3, 12)])
        self.check_wish(floor_with((3, 12), (4, 11), (2, 11)), 12, [(3, 12)])

    def test_the_most_free_first_and_a_last_part(self):
        rooms = ((1, 4), (2, 9), (3, 6), (4, 2))
        self.check_wish(floor_with(*rooms), 9, [(2, 9)])
        self.check_wish(floor_with(*rooms), 10, [(2, 9), (3, 1)])
        self.check_wish(floor_with(*rooms), 17, [(2, 9), (3, 6), (1, 2)])
        self.check_wish(floor_with(*rooms), 21, [(2, 9), (3, 6), (1, 4), (4, 2)])

    def test_no_place_is_chosen_because_it_fits(self):
        self.check_wish(floor_with((1, 5), (2, 9)), 5, [(2, 5)])

    def test_with_as_much_free_the_lesser_number_in_any_order_of_coming(self):
        for rooms in itertools.permutations(((9, 5), (10, 5), (100, 5), (0, 5))):
            with self.subTest(rooms):
                self.check_wish(floor_with(*rooms), 17, [(0, 5), (9, 5), (10, 5), (100, 2)])

    def test_what_counts_is_what_is_free_and_not_what_is_there(self):
        floor = floor_with((1, 10), (2, 8), (3, 7))
        floor.hold(1, "tea", 4)
        floor.hold(2, "tea", 1)
        self.check_wish(floor, 16, [(2, 7), (3, 7), (1, 2)], first=3)
        self.assertEqual([floor.free(place, "tea") for place in (1, 2, 3)], [4, 0, 0])

    def test_a_place_where_all_is_held_is_passed_over(self):
        floor = floor_with((1, 10), (2, 3))
        floor.hold(1, "tea", 10)
        self.check_wish(floor, 3, [(2, 3)], first=2)
        self.assertRaises(TooFew, floor.wish, "tea", 1)

    def test_a_place_that_is_empty_again_is_passed_over(self):
        floor = floor_with((1, 10), (2, 3), (4, 3))
        floor.go(1, "tea", 10)
        floor.counted(2, "tea", 0)
        self.check_wish(floor, 2, [(4, 2)])

    def test_all_there_is_and_one_more(self):
        floor = floor_with((1, 4), (2, 9))
        floor.hold(2, "tea", 3)
        ahead = look(floor)
        for many in (11, 12, 13, GREAT):
            with self.assertRaises(TooFew) as caught:
                floor.wish("tea", many)
            self.assertIs(type(caught.exception), TooFew)
        self.assertEqual(look(floor), ahead)
        self.check_wish(floor, 10, [(2, 6), (1, 4)], first=2)

    def test_where_nothing_of_the_ware_is_free(self):
        floor = stocked()
        for ware in ("eat", "te", "a", "teass"):
            self.assertRaises(TooFew, floor.wish, ware, 1)
        self.assertRaises(TooFew, Floor().wish, "tea", 1)

    def test_other_wares_stay_free(self):
        floor = stocked()
        numbers = floor.wish("tea", 11)
        self.assertEqual(numbers, [6, 7])
        self.assertEqual([floor.holding(6), floor.holding(7)], [(4, "tea", 6), (3, "tea", 5)])
        self.assertEqual((floor.held(3, "teas"), floor.held(4, "eat")), (0, 30))

    def test_nothing_is_there_less(self):
        floor = floor_with((1, 4), (2, 9))
        floor.wish("tea", 11)
        self.assertEqual([floor.there(1, "tea"), floor.there(2, "tea"), floor.whole("tea")], [4, 9, 13])
        self.assertEqual([floor.held(1, "tea"), floor.held(2, "tea")], [2, 9])
        self.assertEqual((floor.came("tea"), floor.went("tea"), floor.righted("tea")), (13, 0, 0))

    def test_each_part_is_a_hold_of_its_own(self):
        floor = floor_with((1, 4), (2, 9), (3, 6))
        floor.wish("tea", 17)
        floor.let(2)
        floor.take(1)
        floor.shift(3, 8)
        self.assertEqual(floor.numbers(), [3])
        self.assertEqual(floor.holding(3), (8, "tea", 2))
        self.assertEqual([floor.there(place, "tea") for place in (1, 2, 3, 8)], [2, 0, 6, 2])

    def test_one_wish_after_another(self):
        floor = floor_with((1, 4), (2, 9), (3, 6))
        self.check_wish(floor, 4, [(2, 4)])
        self.check_wish(floor, 7, [(3, 6), (2, 1)], first=2)
        self.check_wish(floor, 5, [(1, 4), (2, 1)], first=4)
        self.check_wish(floor, 3, [(2, 3)], first=6)

    def test_amounts_beyond_the_greatest_one(self):
        floor = floor_with((1, GREAT), (2, GREAT), (1, GREAT))
        self.check_wish(floor, GREAT, [(1, GREAT)])
        self.check_wish(floor, GREAT, [(1, GREAT)], first=2)
        self.check_wish(floor, GREAT - 1, [(2, GREAT - 1)], first=3)
        self.assertRaises(TooFew, floor.wish, "tea", 2)

    def test_the_holds_are_as_dealt_tells(self):
        for frees in itertools.product((1, 2, 3), repeat=3):
            rooms = list(zip((7, 0, 12), frees))
            for many in range(1, sum(frees) + 1):
                with self.subTest(rooms=rooms, many=many):
                    self.check_wish(floor_with(*rooms), many, dealt(rooms, many))

    def test_many_places(self):
        floor = Floor()
        for place in reversed(range(10000)):
            floor.come(place, "tea", 1 + place % 3)
        numbers = floor.wish("tea", 3333 * 3 + 5)
        self.assertEqual(len(numbers), 3336)
        rank = [place for place in range(10000) if place % 3 == 2] + [place for place in range(10000) if place % 3 == 1]
        for at, number in enumerate(numbers):
            part = 3 if at < 3333 else 2 if at < 3335 else 1
            self.assertEqual((number, floor.holding(number)), (at + 1, (rank[at], "tea", part)))
        self.assertEqual(sum(floor.held(place, "tea") for place in range(10000)), 3333 * 3 + 5)


if __name__ == "__main__":
    unittest.main()
