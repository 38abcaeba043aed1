"""What came, what went and what was put right: promise 9."""

import unittest

from stockfloor.errors import StockError
from stockfloor.floor import Floor
from tests.looks import GREAT, WARES, stocked


def sums(floor, ware):
    """What came, went and was put right, and what is there in all places."""
    return (floor.came(ware), floor.went(ware), floor.righted(ware), floor.whole(ware))


class Sums(unittest.TestCase):
    def check_steps(self, floor, steps):
        """Each step is a deed, what is handed in, and the sums of tea behind it."""
        for word, parts, expected in steps:
            with self.subTest(word=word, parts=parts):
                getattr(floor, word)(*parts)
                self.assertEqual(sums(floor, "tea"), expected)
                self.check_balance(floor)

    def check_balance(self, floor):
        for ware in WARES:
            came, went, righted, whole = sums(floor, ware)
            self.assertEqual(whole, came - went + righted)
            self.assertEqual(whole, sum(floor.there(place, ware) for place in floor.places(ware)))

    def test_behind_each_kind_of_deed(self):
        self.check_steps(Floor(), [
            ("come", (3, "tea", 12), (12, 0, 0, 12)),
            ("come", (4, "tea", 8), (20, 0, 0, 20)),
            ("go", (3, "tea", 2), (20, 2, 0, 18)),
            ("move", (3, 5, "tea", 4), (20, 2, 0, 18)),
            ("hold", (4, "tea", 3), (20, 2, 0, 18)),
            ("hold", (4, "tea", 1), (20, 2, 0, 18)),
            ("let", (1,), (20, 2, 0, 18)),
            ("take", (2,), (20, 3, 0, 17)),
            ("wish", ("tea", 9), (20, 3, 0, 17)),
            ("shift", (3, 9), (20, 3, 0, 17)),
            ("take", (3,), (20, 10, 0, 10)),
            ("counted", (3, "tea", 16), (20, 10, 10, 20)),
            ("counted", (5, "tea", 0), (20, 10, 6, 16)),
            ("counted", (4, "tea", 0), (20, 10, 6, 16)),
            ("go", (3, "tea", 14), (20, 24, 6, 2)),
            ("counted", (3, "tea", 0), (20, 24, 4, 0)),
        ])

    def test_righted_below_nought(self):
        self.check_steps(Floor(), [
            ("come", (3, "tea", 12), (12, 0, 0, 12)),
            ("counted", (3, "tea", 5), (12, 0, -7, 5)),
            ("counted", (3, "tea", 5), (12, 0, -7, 5)),
            ("counted", (3, "tea", 4), (12, 0, -8, 4)),
            ("counted", (3, "tea", 20), (12, 0, 8, 20)),
            ("counted", (3, "tea", 0), (12, 0, -12, 0)),
        ])

    def test_what_holds_lose_in_a_count_went_nowhere(self):
        self.check_steps(Floor(), [
            ("come", (3, "tea", 12), (12, 0, 0, 12)),
            ("hold", (3, "tea", 7), (12, 0, 0, 12)),
            ("hold", (3, "tea", 5), (12, 0, 0, 12)),
            ("counted", (3, "tea", 4), (12, 0, -8, 4)),
            ("take", (1,), (12, 4, -8, 0)),
        ])

    def test_a_ware_that_was_counted_only(self):
        self.check_steps(Floor(), [
            ("counted", (3, "tea", 9), (0, 0, 9, 9)),
            ("go", (3, "tea", 4), (0, 4, 9, 5)),
        ])

    def test_a_ware_that_never_was_there(self):
        floor = stocked()
        for ware in ("a", "te", "teass", "aet"):
            self.assertEqual(sums(floor, ware), (0, 0, 0, 0))

    def test_each_ware_has_its_own_sums(self):
        floor = stocked()
        floor.go(3, "tea", 2)
        floor.counted(4, "eat", 29)
        self.assertEqual(sums(floor, "tea"), (16, 2, 0, 14))
        self.assertEqual(sums(floor, "teas"), (20, 7, 0, 13))
        self.assertEqual(sums(floor, "eat"), (30, 0, -1, 29))

    def test_sums_beyond_the_greatest_amount(self):
        floor = Floor()
        for place in (1, 2, 3):
            floor.come(place, "tea", GREAT)
        for place in (1, 2):
            floor.go(place, "tea", GREAT)
        floor.take(floor.hold(3, "tea", GREAT))
        self.assertEqual(sums(floor, "tea"), (3 * GREAT, 3 * GREAT, 0, 0))
        floor.counted(7, "tea", GREAT)
        floor.counted(8, "tea", GREAT)
        self.assertEqual(sums(floor, "tea"), (3 * GREAT, 3 * GREAT, 2 * GREAT, 2 * GREAT))

    def test_a_refused_deed_adds_nothing(self):
        floor = stocked()
        ahead = [sums(floor, ware) for ware in WARES]
        for word, parts in (("come", (3, "tea", 0)), ("go", (3, "tea", 6)), ("take", (2,)),
                            ("counted", (3, "tea", -1)), ("counted", (-1, "tea", 1))):
            self.assertRaises(StockError, getattr(floor, word), *parts)
        self.assertEqual([sums(floor, ware) for ware in WARES], ahead)


if __name__ == "__main__":
    unittest.main()
