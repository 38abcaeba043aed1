"""What was found is there from now on, and holds lose what lacks: promise 6."""

import unittest

from stockfloor.errors import NoHold
from stockfloor.floor import Floor
from tests.looks import GREAT, look, stocked


def held_floor(*amounts, free=0):
    """A floor with a hold of each of these amounts of tea in place 3, and some of it free."""
    floor = Floor()
    floor.come(3, "tea", sum(amounts) + free)
    for many in amounts:
        floor.hold(3, "tea", many)
    return floor


class NothingHeld(unittest.TestCase):
    def test_more_as_much_and_less(self):
        for many in (0, 1, 11, 12, 13, 100, GREAT):
            with self.subTest(many):
                floor = Floor()
                floor.come(3, "tea", 12)
                self.assertEqual(floor.counted(3, "tea", many), [])
                self.assertEqual(floor.there(3, "tea"), many)
                self.assertEqual(floor.free(3, "tea"), many)
                self.assertEqual(floor.righted("tea"), many - 12)

    def test_where_nothing_was(self):
        floor = Floor()
        self.assertEqual(floor.counted(3, "tea", 7), [])
        self.assertEqual((floor.there(3, "tea"), floor.righted("tea"), floor.came("tea")), (7, 7, 0))
        self.assertEqual(floor.places("tea"), [3])
        floor.hold(3, "tea", 7)

    def test_nought_leaves_the_place_empty(self):
        floor = Floor()
        floor.come(3, "tea", 12)
        self.assertEqual(floor.counted(3, "tea", 0), [])
        self.assertEqual(floor.places("tea"), [])

    def test_other_places_and_other_wares_stay(self):
        floor = stocked()
        floor.counted(3, "tea", 7)
        self.assertEqual([floor.there(4, "tea"), floor.there(3, "teas"), floor.there(4, "eat")], [6, 13, 30])


class EnoughFound(unittest.TestCase):
    def test_holds_stay_where_not_less_than_is_held_was_found(self):
        for many in (9, 10, 11, 15, 16, 17, 1000):
            with self.subTest(many):
                floor = held_floor(4, 5, free=7)
                self.assertEqual(floor.counted(3, "tea", many), [])
                self.assertEqual(floor.numbers(), [1, 2])
                self.assertEqual([floor.holding(1), floor.holding(2)], [(3, "tea", 4), (3, "tea", 5)])
                self.assertEqual((floor.held(3, "tea"), floor.free(3, "tea")), (9, many - 9))


class TooLittleFound(unittest.TestCase):
    def check_lost(self, floor, many, lost, left):
        """`left` is what each hold of tea in place 3 holds from now on, by its number."""
        told = floor.counted(3, "tea", many)
        self.assertEqual(told, lost)
        self.assertIs(type(told), list)
        for pair in told:
            self.assertIs(type(pair), tuple)
        self.assertEqual(floor.there(3, "tea"), many)
        self.assertEqual(floor.held(3, "tea"), many)
        self.assertEqual(floor.free(3, "tea"), 0)
        standing = {number: floor.holding(number) for number in floor.numbers()}
        in_place = {number: held[2] for number, held in standing.items() if held[:2] == (3, "tea")}
        self.assertEqual(in_place, left)

    def test_one_hold_that_loses_a_part(self):
        self.check_lost(held_floor(5), 4, [(1, 1)], {1: 4})
        self.check_lost(held_floor(5), 1, [(1, 4)], {1: 1})
        self.check_lost(held_floor(5, free=9), 4, [(1, 1)], {1: 4})

    def test_one_hold_that_loses_all(self):
        self.check_lost(held_floor(5), 0, [(1, 5)], {})
        self.check_lost(held_floor(5, free=9), 0, [(1, 5)], {})

    def test_the_greatest_number_first(self):
        self.check_lost(held_floor(4, 5, 6), 14, [(3, 1)], {1: 4, 2: 5, 3: 5})
        self.check_lost(held_floor(4, 5, 6), 10, [(3, 5)], {1: 4, 2: 5, 3: 1})
        self.check_lost(held_floor(4, 5, 6), 9, [(3, 6)], {1: 4, 2: 5})
        self.check_lost(held_floor(4, 5, 6), 8, [(3, 6), (2, 1)], {1: 4, 2: 4})
        self.check_lost(held_floor(4, 5, 6), 4, [(3, 6), (2, 5)], {1: 4})
        self.check_lost(held_floor(4, 5, 6), 3, [(3, 6), (2, 5), (1, 1)], {1: 3})
        self.check_lost(held_floor(4, 5, 6), 0, [(3, 6), (2, 5), (1, 4)], {})

    def test_by_numbers_and_not_by_amounts(self):
        self.check_lost(held_floor(9, 1, 5), 8, [(3, 5), (2, 1), (1, 1)], {1: 8})
        self.check_lost(held_floor(1, 9, 5), 8, [(3, 5), (2, 2)], {1: 1, 2: 7})

    def test_numbers_are_compared_as_numbers(self):
        floor = held_floor(*([1] * 12))
        self.check_lost(floor, 8, [(12, 1), (11, 1), (10, 1), (9, 1)], dict.fromkeys(range(1, 9), 1))

    def test_the_parts_are_whole_numbers(self):
        for pair in held_floor(4, 5, 6).counted(3, "tea", 3):
            self.assertEqual([type(part) for part in pair], [int, int])

    def test_one_after_another(self):
        floor = held_floor(4, 5, 6, free=2)
        self.check_lost(floor, 13, [(3, 2)], {1: 4, 2: 5, 3: 4})
        self.check_lost(floor, 8, [(3, 4), (2, 1)], {1: 4, 2: 4})
        self.assertEqual(floor.counted(3, "tea", 8), [])
        self.assertEqual(floor.counted(3, "tea", 50), [])
        self.assertEqual(floor.held(3, "tea"), 8)
        self.check_lost(floor, 0, [(2, 4), (1, 4)], {})
        self.assertEqual(floor.righted("tea"), -17)

    def test_a_number_in_between_that_is_over(self):
        floor = held_floor(4, 5, 6, 7)
        floor.let(4)
        floor.take(2)
        self.check_lost(floor, 3, [(3, 6), (1, 1)], {1: 3})

    def test_a_hold_that_lost_all_is_over(self):
        floor = held_floor(4, 5)
        floor.counted(3, "tea", 4)
        self.assertIsNone(floor.holding(2))
        self.assertEqual(floor.numbers(), [1])
        self.assertRaises(NoHold, floor.let, 2)
        self.assertRaises(NoHold, floor.take, 2)
        self.assertRaises(NoHold, floor.shift, 2, 9)
        floor.come(3, "tea", 1)
        self.assertEqual(floor.hold(3, "tea", 1), 3)

    def test_a_hold_that_lost_a_part_still_stands_with_the_rest(self):
        floor = held_floor(4, 5)
        floor.counted(3, "tea", 6)
        floor.take(2)
        self.assertEqual((floor.there(3, "tea"), floor.held(3, "tea"), floor.went("tea")), (4, 4, 2))
        floor.let(1)
        self.assertEqual(floor.free(3, "tea"), 4)

    def test_holds_of_other_wares_and_other_places_stay(self):
        floor = Floor()
        for place in (3, 4):
            for ware in ("tea", "teas", "eat"):
                floor.come(place, ware, 10)
        holds = [(3, "teas", 1), (3, "tea", 2), (4, "tea", 3), (3, "eat", 4), (3, "tea", 5), (4, "tea", 6),
                 (3, "teas", 7)]
        for place, ware, many in holds:
            floor.hold(place, ware, many)
        self.check_lost(floor, 1, [(5, 5), (2, 1)], {2: 1})
        self.assertEqual(floor.numbers(), [1, 2, 3, 4, 6, 7])
        for number in (1, 3, 4, 6, 7):
            self.assertEqual(floor.holding(number), holds[number - 1])
        self.assertEqual([floor.held(3, "teas"), floor.held(3, "eat"), floor.held(4, "tea")], [8, 4, 9])
        self.assertEqual([floor.there(3, "teas"), floor.there(3, "eat"), floor.there(4, "tea")], [10, 10, 10])

    def test_holds_that_were_shifted_in_and_out(self):
        floor = Floor()
        floor.come(3, "tea", 20)
        floor.come(4, "tea", 20)
        for place, many in ((4, 2), (3, 3), (4, 4), (3, 5)):
            floor.hold(place, "tea", many)
        floor.shift(3, 3)
        floor.shift(4, 4)
        floor.shift(1, 3)
        self.check_lost(floor, 3, [(3, 4), (2, 2)], {1: 2, 2: 1})
        self.assertEqual(floor.holding(4), (4, "tea", 5))

    def test_holds_of_a_wish(self):
        floor = Floor()
        for place, many in ((3, 9), (4, 10), (5, 9)):
            floor.come(place, "tea", many)
        self.assertEqual(floor.wish("tea", 25), [1, 2, 3])
        self.check_lost(floor, 2, [(2, 7)], {2: 2})
        self.assertEqual(floor.numbers(), [1, 2, 3])
        self.assertEqual(floor.holding(3), (5, "tea", 6))

    def test_every_count_of_every_small_floor(self):
        for amounts in ((1,), (3,), (1, 1), (2, 3), (3, 1, 2), (1, 2, 1, 3)):
            for free in (0, 1, 2):
                for many in range(sum(amounts) + free + 2):
                    with self.subTest(amounts=amounts, free=free, many=many):
                        self.check_small(amounts, free, many)

    def check_small(self, amounts, free, many):
        floor = held_floor(*amounts, free=free)
        left = list(amounts)
        order = []
        while sum(left) > many:
            latest = max(at for at in range(len(left)) if left[at] > 0)
            left[latest] -= 1
            if latest + 1 not in order:
                order.append(latest + 1)
        lost = [(number, amounts[number - 1] - left[number - 1]) for number in order]
        self.assertEqual(floor.counted(3, "tea", many), lost)
        standing = [number for number in range(1, len(left) + 1) if left[number - 1] > 0]
        self.assertEqual(floor.numbers(), standing)
        self.assertEqual([floor.holding(number)[2] for number in standing], [left[at - 1] for at in standing])
        self.assertEqual((floor.there(3, "tea"), floor.held(3, "tea")), (many, sum(left)))

    def test_many_holds(self):
        floor = held_floor(*([2] * 3000))
        lost = floor.counted(3, "tea", 1001)
        self.assertEqual(len(lost), 2500)
        # Pair by pair: assertEqual takes far too long to write out how two such lists differ.
        for at, pair in enumerate(lost):
            self.assertEqual(pair, (3000 - at, 2 if at < 2499 else 1))
        self.assertEqual(floor.held(3, "tea"), 1001)
        self.assertEqual(len(floor.numbers()), 501)


if __name__ == "__main__":
    unittest.main()
