"""What is told where several things are wrong, and that nothing is changed then: promise 8."""

import itertools
import unittest

from stockfloor.book import done
from stockfloor.errors import BadMany, BadPlace, BadWare, NoHold, SamePlace, TooFew
from tests.looks import FREE_TEA, GREAT, NEXT_NUMBER, look, stocked

WARES = ("Tea", "", None)
PLACES = (-1, 10000, True, "3")
AMOUNTS = (0, GREAT + 1, True, None)
COUNTS = (-1, GREAT + 1, False, "1")
# Hold 2 is over and was in place 4, hold 6 never was.
NUMBERS = (2, 6, 0, True, None, [1])


def put(name, value):
    """A change to what is handed in under a name."""
    return lambda parts: {**parts, name: value}


def puts(name, values):
    return [put(name, value) for value in values]


def same_place(parts):
    """The goal is where the deed starts: the number's place where there is no start."""
    return {**parts, "goal": parts.get("start", 3)}


def too_many(parts):
    """More than is free; an amount that is none, and is too much as well, stays as it is."""
    return {**parts, "many": FREE_TEA + 1} if parts["many"] == 1 else parts


# For each deed what is right, and in the order of promise 8 what may be wrong, each with the refusal.
# Of each wrong thing there are several; wherever a later one undoes an earlier one, it is left out below.
DEEDS = {
    "come": ({"place": 3, "ware": "tea", "many": 1}, [
        (BadWare, puts("ware", WARES)), (BadPlace, puts("place", PLACES)), (BadMany, puts("many", AMOUNTS))]),
    "go": ({"place": 3, "ware": "tea", "many": 1}, [
        (BadWare, puts("ware", WARES)), (BadPlace, puts("place", PLACES)), (BadMany, puts("many", AMOUNTS)),
        (TooFew, [too_many])]),
    "move": ({"start": 3, "goal": 4, "ware": "tea", "many": 1}, [
        (BadWare, puts("ware", WARES)), (BadPlace, puts("start", PLACES)), (BadPlace, puts("goal", PLACES)),
        (SamePlace, [same_place]), (BadMany, puts("many", AMOUNTS)), (TooFew, [too_many])]),
    "hold": ({"place": 3, "ware": "tea", "many": 1}, [
        (BadWare, puts("ware", WARES)), (BadPlace, puts("place", PLACES)), (BadMany, puts("many", AMOUNTS)),
        (TooFew, [too_many])]),
    "let": ({"number": 1}, [(NoHold, puts("number", NUMBERS))]),
    "take": ({"number": 1}, [(NoHold, puts("number", NUMBERS))]),
    "shift": ({"number": 1, "goal": 4}, [
        (NoHold, puts("number", NUMBERS)), (BadPlace, puts("goal", PLACES)), (SamePlace, [same_place])]),
    "counted": ({"place": 3, "ware": "tea", "many": 1}, [
        (BadWare, puts("ware", WARES)), (BadPlace, puts("place", PLACES)), (BadMany, puts("many", COUNTS))]),
    "wish": ({"ware": "tea", "many": 1}, [
        (BadWare, puts("ware", WARES)), (BadMany, puts("many", AMOUNTS)), (TooFew, [put("many", 12)])]),
}


def wrong_calls(most):
    """Each deed with one to `most` wrong things at once: (word, what is handed in, the refusal)."""
    for word, (right, wrongs) in DEEDS.items():
        for count in range(1, min(most, len(wrongs)) + 1):
            for chosen in itertools.combinations(wrongs, count):
                for changes in itertools.product(*(changes for _, changes in chosen)):
                    parts = right
                    for change in changes:
                        parts = change(parts)
                    if not undone(right, chosen, changes, parts):
                        yield word, parts, chosen[0][0]


def undone(right, chosen, changes, parts):
    """Whether the first wrong thing was put right again by a later one."""
    first = changes[0](right)
    wrong = [name for name in first if first[name] != right[name] or type(first[name]) is not type(right[name])]
    return any(parts[name] is not first[name] for name in wrong)


class FirstWrongThing(unittest.TestCase):
    def check_call(self, word, parts, refusal):
        floor = stocked()
        ahead = look(floor)
        with self.assertRaises(refusal) as caught:
            getattr(floor, word)(**parts)
        self.assertIs(type(caught.exception), refusal)
        with self.assertRaises(refusal) as caught:
            done(floor, (word, *parts.values()))
        self.assertIs(type(caught.exception), refusal)
        self.assertEqual(look(floor), ahead)
        self.assertEqual(floor.hold(3, "tea", 1), NEXT_NUMBER)

    def test_each_deed_is_done_where_nothing_is_wrong(self):
        for word, (right, _) in DEEDS.items():
            with self.subTest(word):
                floor = stocked()
                getattr(floor, word)(**right)
                self.assertEqual(floor.book()[-1], (word, *right.values()))

    def test_every_one_and_every_two_wrong_things(self):
        seen = set()
        for word, parts, refusal in wrong_calls(2):
            seen.add((word, refusal))
            with self.subTest(word=word, parts=parts):
                self.check_call(word, parts, refusal)
        self.assertEqual(seen, {(word, refusal) for word, (_, wrongs) in DEEDS.items() for refusal, _ in wrongs})

    def test_three_and_more_wrong_things(self):
        for word, (right, wrongs) in DEEDS.items():
            for count in range(3, len(wrongs) + 1):
                for chosen in itertools.combinations(wrongs, count):
                    changes = [changes[0] for _, changes in chosen]
                    parts = right
                    for change in changes:
                        parts = change(parts)
                    if not undone(right, chosen, changes, parts):
                        with self.subTest(word=word, parts=parts):
                            self.check_call(word, parts, chosen[0][0])


class WrittenOut(unittest.TestCase):
    """The same by hand, where the table above leaves a doubt."""

    CALLS = (
        (BadWare, "come", (-1, "Tea", 0)),
        (BadPlace, "come", (-1, "tea", 0)),
        (BadMany, "come", (3, "tea", 0)),
        (BadWare, "go", (-1, "Tea", 0)),
        (BadPlace, "go", (10000, "tea", GREAT + 1)),
        (BadPlace, "go", (10000, "tea", GREAT)),
        (BadMany, "go", (3, "tea", GREAT + 1)),
        (TooFew, "go", (3, "tea", GREAT)),
        (BadWare, "move", (3, 3, "Tea", 0)),
        (BadWare, "move", (-1, -1, "Tea", 0)),
        (BadPlace, "move", (-1, -1, "tea", 0)),
        (BadPlace, "move", (10000, 10000, "tea", 1)),
        (BadPlace, "move", (True, 1, "tea", 1)),
        (BadPlace, "move", (1, True, "tea", 1)),
        (BadPlace, "move", (3, 10000, "tea", GREAT)),
        (SamePlace, "move", (3, 3, "tea", 0)),
        (SamePlace, "move", (3, 3, "tea", None)),
        (SamePlace, "move", (3, 3, "tea", GREAT)),
        (SamePlace, "move", (9, 9, "tea", 1)),
        (BadMany, "move", (3, 4, "tea", 0)),
        (BadMany, "move", (9, 4, "tea", GREAT + 1)),
        (TooFew, "move", (9, 4, "tea", 1)),
        (BadWare, "hold", (-1, "tea\n", 0)),
        (BadPlace, "hold", (-1, "tea", 0)),
        (BadMany, "hold", (9, "tea", 0)),
        (TooFew, "hold", (9, "tea", 1)),
        (NoHold, "shift", (2, -1)),
        (NoHold, "shift", (2, 4)),
        (NoHold, "shift", (True, 3)),
        (BadPlace, "shift", (1, -1)),
        (BadPlace, "shift", (1, True)),
        (SamePlace, "shift", (1, 3)),
        (BadWare, "counted", (-1, "", -1)),
        (BadPlace, "counted", (-1, "tea", -1)),
        (BadMany, "counted", (3, "tea", -1)),
        (BadWare, "wish", ("Tea", 0)),
        (BadMany, "wish", ("tea", 0)),
        (BadMany, "wish", ("tea", GREAT + 1)),
        (BadMany, "wish", ("none", 0)),
        (TooFew, "wish", ("tea", GREAT)),
        (TooFew, "wish", ("none", 1)),
    )

    def test_the_class_that_is_told(self):
        for refusal, word, parts in self.CALLS:
            with self.subTest(word=word, parts=parts):
                floor = stocked()
                ahead = look(floor)
                with self.assertRaises(refusal) as caught:
                    getattr(floor, word)(*parts)
                self.assertIs(type(caught.exception), refusal)
                self.assertEqual(look(floor), ahead)
                self.assertEqual(floor.wish("tea", 1), [NEXT_NUMBER])

    def test_true_and_false_are_no_places_and_so_not_the_same_place(self):
        for place, value in ((0, False), (1, True)):
            floor = stocked()
            floor.come(place, "tea", 2)
            number = floor.hold(place, "tea", 1)
            ahead = look(floor)
            self.assertRaises(BadPlace, floor.shift, number, value)
            self.assertRaises(BadPlace, floor.move, place, value, "tea", 1)
            self.assertRaises(BadPlace, floor.move, value, place, "tea", 1)
            self.assertRaises(SamePlace, floor.shift, number, place)
            self.assertEqual(look(floor), ahead)

    def test_all_of_them_on_one_floor(self):
        floor = stocked()
        ahead = look(floor)
        for refusal, word, parts in self.CALLS:
            self.assertRaises(refusal, getattr(floor, word), *parts)
        self.assertEqual(look(floor), ahead)
        self.assertEqual(floor.hold(3, "tea", FREE_TEA), NEXT_NUMBER)


if __name__ == "__main__":
    unittest.main()
