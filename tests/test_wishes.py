"""By which parts an amount is held: promise 7, and of promise 1 what touches `dealt`."""

import itertools
import unittest

from stockfloor.errors import TooFew
from stockfloor.wishes import dealt

GREAT = 10 ** 30


def fewest_places(rooms, many):
    """The least number of rooms that have `many` together, found by trying all choices."""
    for count in range(1, len(rooms) + 1):
        for chosen in itertools.combinations(rooms, count):
            if sum(free for _, free in chosen) >= many:
                return count
    raise AssertionError("all rooms together have less")


def small_floors():
    """Every floor of at most four places with at most three free in each, in several orders."""
    places = (7, 0, 12, 9)
    for count in range(len(places) + 1):
        for frees in itertools.product(range(4), repeat=count):
            yield list(zip(places, frees))


class Ordinary(unittest.TestCase):
    def test_several_rooms(self):
        rooms = [(1, 4), (2, 9), (3, 6), (4, 2)]
        parts = dealt(rooms, 17)
        self.assertEqual(parts, [(2, 9), (3, 6), (1, 2)])
        self.assertEqual(sum(part for _, part in parts), 17)

    def test_a_list_of_tuples_of_whole_numbers(self):
        parts = dealt([(3, 5), (1, 2)], 6)
        self.assertIs(type(parts), list)
        for pair in parts:
            self.assertIs(type(pair), tuple)
            self.assertEqual([type(number) for number in pair], [int, int])

    def test_one_room_alone(self):
        self.assertEqual(dealt([(5, 8)], 1), [(5, 1)])
        self.assertEqual(dealt([(5, 8)], 7), [(5, 7)])
        self.assertEqual(dealt([(5, 8)], 8), [(5, 8)])

    def test_the_least_wish(self):
        self.assertEqual(dealt([(4, 1), (2, 3)], 1), [(2, 1)])

    def test_the_same_wish_twice_is_dealt_the_same(self):
        rooms = [(1, 4), (2, 9)]
        self.assertEqual(dealt(rooms, 11), [(2, 9), (1, 2)])
        self.assertEqual(dealt(rooms, 11), [(2, 9), (1, 2)])


class Order(unittest.TestCase):
    def test_the_most_free_first(self):
        self.assertEqual(dealt([(1, 1), (2, 2), (3, 3)], 6), [(3, 3), (2, 2), (1, 1)])
        self.assertEqual(dealt([(1, 3), (2, 2), (3, 1)], 6), [(1, 3), (2, 2), (3, 1)])

    def test_what_is_free_is_compared_as_numbers(self):
        self.assertEqual(dealt([(1, 9), (2, 10), (3, 100)], 119), [(3, 100), (2, 10), (1, 9)])

    def test_with_as_much_free_the_lesser_number_first(self):
        for rooms in itertools.permutations([(2, 5), (4, 5), (8, 5)]):
            with self.subTest(rooms):
                self.assertEqual(dealt(list(rooms), 12), [(2, 5), (4, 5), (8, 2)])

    def test_places_are_compared_as_numbers(self):
        rooms = [(100, 5), (10, 5), (9, 5), (9999, 5), (0, 5)]
        self.assertEqual(dealt(rooms, 25), [(0, 5), (9, 5), (10, 5), (100, 5), (9999, 5)])

    def test_the_lesser_number_first_within_each_amount_only(self):
        rooms = [(9, 7), (6, 3), (8, 7), (1, 1), (5, 3)]
        self.assertEqual(dealt(rooms, 21), [(8, 7), (9, 7), (5, 3), (6, 3), (1, 1)])


class NothingFree(unittest.TestCase):
    def test_a_room_with_nothing_free_is_no_part(self):
        rooms = [(1, 0), (2, 3), (3, 0), (4, 5), (5, 0)]
        self.assertEqual(dealt(rooms, 8), [(4, 5), (2, 3)])
        self.assertEqual(dealt(rooms, 5), [(4, 5)])
        self.assertEqual(dealt(rooms, 2), [(4, 2)])

    def test_only_rooms_with_nothing_free(self):
        with self.assertRaises(TooFew):
            dealt([(1, 0), (2, 0)], 1)


class LastPart(unittest.TestCase):
    def test_what_is_still_wanted_where_that_is_less(self):
        self.assertEqual(dealt([(1, 10), (2, 7)], 11), [(1, 10), (2, 1)])
        self.assertEqual(dealt([(1, 10), (2, 7)], 16), [(1, 10), (2, 6)])

    def test_all_of_it_where_it_is_just_that(self):
        self.assertEqual(dealt([(1, 10), (2, 7), (3, 4)], 17), [(1, 10), (2, 7)])

    def test_no_room_is_chosen_because_it_fits(self):
        self.assertEqual(dealt([(1, 10), (2, 7), (3, 3)], 13), [(1, 10), (2, 3)])
        self.assertEqual(dealt([(1, 10), (2, 5)], 5), [(1, 5)])


class TooMuch(unittest.TestCase):
    def test_all_there_is_and_one_more(self):
        rooms = [(1, 4), (2, 9), (3, 0)]
        self.assertEqual(dealt(rooms, 13), [(2, 9), (1, 4)])
        with self.assertRaises(TooFew) as caught:
            dealt(rooms, 14)
        self.assertIs(type(caught.exception), TooFew)

    def test_far_more_than_there_is(self):
        with self.assertRaises(TooFew):
            dealt([(1, 4), (2, 9)], GREAT)

    def test_one_more_than_a_single_room_has(self):
        with self.assertRaises(TooFew):
            dealt([(1, 4)], 5)

    def test_no_rooms(self):
        for many in (1, 2, GREAT):
            with self.subTest(many):
                with self.assertRaises(TooFew):
                    dealt([], many)


class FewestPlaces(unittest.TestCase):
    def test_one_room_that_has_enough_beside_others_that_have_less(self):
        self.assertEqual(dealt([(1, 5), (2, 20), (3, 6), (4, 19)], 20), [(2, 20)])
        self.assertEqual(dealt([(1, 5), (2, 20), (3, 6), (4, 19)], 18), [(2, 18)])

    def test_one_fewer_would_not_do(self):
        rooms = [(1, 6), (2, 5), (3, 5), (4, 4), (5, 1)]
        for many in range(1, 22):
            with self.subTest(many):
                self.assertEqual(len(dealt(rooms, many)), fewest_places(rooms, many))

    def test_every_wish_on_every_small_floor(self):
        for rooms in small_floors():
            for many in range(1, sum(free for _, free in rooms) + 1):
                with self.subTest(rooms=rooms, many=many):
                    self.check_parts(rooms, many, dealt(rooms, many))

    def check_parts(self, rooms, many, parts):
        free = dict(rooms)
        self.assertEqual(sum(part for _, part in parts), many)
        self.assertEqual(len(parts), fewest_places(rooms, many))
        self.assertTrue(all(0 < part <= free[place] for place, part in parts))
        self.assertTrue(all(part == free[place] for place, part in parts[:-1]))
        by_rank = sorted(free, key=lambda place: (-free[place], place))
        self.assertEqual([place for place, _ in parts], by_rank[:len(parts)])

    def test_one_more_than_all_on_every_small_floor(self):
        for rooms in small_floors():
            with self.subTest(rooms=rooms):
                with self.assertRaises(TooFew):
                    dealt(rooms, sum(free for _, free in rooms) + 1)


class Great(unittest.TestCase):
    def test_beyond_the_limit_of_what_is_handed_in(self):
        rooms = [(1, GREAT), (2, GREAT * 7 + 1), (3, GREAT * 7)]
        self.assertEqual(dealt(rooms, GREAT * 14 + 2), [(2, GREAT * 7 + 1), (3, GREAT * 7), (1, 1)])

    def test_amounts_that_differ_by_one(self):
        rooms = [(1, 10 ** 60), (2, 10 ** 60 + 1), (3, 10 ** 60 - 1)]
        self.assertEqual(dealt(rooms, 10 ** 60 + 2), [(2, 10 ** 60 + 1), (1, 1)])

    def test_all_there_is_and_one_more(self):
        rooms = [(1, 10 ** 60), (2, 3)]
        self.assertEqual(dealt(rooms, 10 ** 60 + 3), [(1, 10 ** 60), (2, 3)])
        with self.assertRaises(TooFew):
            dealt(rooms, 10 ** 60 + 4)

    def test_amounts_of_more_digits_than_python_writes_out(self):
        huge = 10 ** 5000
        self.assertTrue(dealt([(1, 2), (2, huge)], huge + 1) == [(2, huge), (1, 1)])
        for rooms in ([], [(1, 2)], [(1, huge), (2, 5)]):
            with self.assertRaises(TooFew):
                dealt(rooms, huge + 6)


class ManyRooms(unittest.TestCase):
    def check_same(self, parts, expected):
        # Pair by pair: assertEqual takes far too long to write out how two such lists differ.
        self.assertEqual(len(parts), len(expected))
        for part, pair in zip(parts, expected):
            self.assertEqual(part, pair)

    def test_some_hundreds(self):
        rooms = [(place, place * 7 % 900) for place in range(900)]
        by_rank = sorted(rooms, key=lambda room: (-room[1], room[0]))
        everything = sum(free for _, free in rooms)
        self.check_same(dealt(rooms, everything), [room for room in by_rank if room[1] > 0])
        self.check_same(dealt(rooms, by_rank[0][1] + 1), [by_rank[0], (by_rank[1][0], 1)])
        with self.assertRaises(TooFew):
            dealt(rooms, everything + 1)

    def test_some_hundreds_with_as_much_free(self):
        rooms = [(place, 2) for place in reversed(range(700))]
        parts = dealt(rooms, 1201)
        self.check_same(parts, [(place, 2) for place in range(600)] + [(600, 1)])

    def test_every_place_there_can_be(self):
        rooms = [(place, 1) for place in range(10000)]
        self.check_same(dealt(rooms, 10000), rooms)


class HandedIn(unittest.TestCase):
    def test_the_list_stays_as_it_was(self):
        rooms = [(3, 1), (1, 4), (2, 0), (9, 4)]
        for many in (1, 4, 5, 9):
            dealt(rooms, many)
            self.assertEqual(rooms, [(3, 1), (1, 4), (2, 0), (9, 4)])

    def test_it_stays_so_where_a_wish_is_refused_in_between(self):
        rooms = [(3, 1), (1, 4), (2, 0), (9, 4)]
        self.assertEqual(dealt(rooms, 9), [(1, 4), (9, 4), (3, 1)])
        with self.assertRaises(TooFew):
            dealt(rooms, 10)
        self.assertEqual(rooms, [(3, 1), (1, 4), (2, 0), (9, 4)])
        self.assertEqual(dealt(rooms, 9), [(1, 4), (9, 4), (3, 1)])

    def test_another_list_comes_back(self):
        rooms = [(1, 4), (2, 3)]
        parts = dealt(rooms, 7)
        self.assertEqual(parts, rooms)
        self.assertIsNot(parts, rooms)

    def test_another_list_comes_back_each_time(self):
        rooms = [(1, 4), (2, 3)]
        first = dealt(rooms, 6)
        with self.assertRaises(TooFew):
            dealt(rooms, 8)
        second = dealt(rooms, 6)
        self.assertIsNot(first, second)
        first.append("mine")
        self.assertEqual(second, [(1, 4), (2, 2)])
        self.assertEqual(dealt(rooms, 6), [(1, 4), (2, 2)])
        self.assertEqual(rooms, [(1, 4), (2, 3)])


if __name__ == "__main__":
    unittest.main()
