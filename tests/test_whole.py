"""Long runs of deeds, right and wrong ones, against the plain floor of model.py: all promises together."""

import random
import unittest

from stockfloor.book import done, fault, replayed
from stockfloor.errors import StockError
from stockfloor.floor import Floor
from stockfloor.notes import read, shown
from tests.looks import GREAT, look
from tests.model import Model

WARES = ("tea", "teas")
PLACES = (0, 2, 10, 9999)

WORDS = {
    "come": ("place", "ware", "coming"),
    "go": ("place", "ware", "many"),
    "move": ("place", "place", "ware", "many"),
    "hold": ("place", "ware", "many"),
    "let": ("number",),
    "take": ("number",),
    "shift": ("number", "place"),
    "counted": ("place", "ware", "found"),
    "wish": ("ware", "wished"),
}

# Some words more often than others, so that there is something to go, to hold and to lose.
DRAWN_WORDS = (*WORDS, "come", "come", "hold", "hold", "wish", "shift", "counted")

AMOUNTS = {"coming": (1, 20), "many": (1, 6), "found": (0, 25), "wished": (1, 25)}


def drawn(draw, kind, model):
    """A part of an entry: mostly a right one."""
    if draw.random() < 0.02:
        return draw.choice((None, True, False, -1, "", "Tea", 10000, 0, GREAT, GREAT + 1, (1,)))
    if kind == "place":
        return draw.choice(PLACES)
    if kind == "ware":
        return draw.choice(WARES)
    if kind == "number":
        standing = [hold[0] for hold in model.holds]
        return draw.choice(standing) if standing and draw.random() < 0.8 else draw.randint(0, model.made + 1)
    return draw.randint(*AMOUNTS[kind])


def outcome(deed, entry):
    """What a deed gives, or the class of its refusal."""
    try:
        return deed(entry)
    except StockError as refusal:
        return type(refusal)


class LongRuns(unittest.TestCase):
    def check_run(self, seed, steps):
        # Each seed always draws the same deeds.
        draw = random.Random(seed)
        floor, model, entries = Floor(), Model(), []
        for _ in range(steps):
            word = draw.choice(DRAWN_WORDS)
            entry = (word, *(drawn(draw, kind, model) for kind in WORDS[word]))
            entries.append(entry)
            told = outcome(lambda it: done(floor, it), entry)
            self.assertEqual(told, outcome(model.do, entry), entry)
            self.assertEqual(look(floor, WARES, PLACES), model.look(WARES, PLACES))
        return floor, entries

    def test_the_floor_does_as_the_document_tells(self):
        refused = 0
        for seed in range(150):
            with self.subTest(seed):
                floor, entries = self.check_run(seed, 60)
                refused += len(entries) - len(floor.book())
                self.check_book(floor, entries)
        # Neither kind is to be rare among the drawn deeds.
        self.assertGreater(refused, 150 * 60 // 4)
        self.assertLess(refused, 150 * 60 // 2)

    def check_book(self, floor, entries):
        book = floor.book()
        anew = replayed(book)
        self.assertEqual(look(anew, WARES, PLACES), look(floor, WARES, PLACES))
        self.assertIsNone(fault(book))
        if book != entries:
            parted = [at for at in range(len(entries)) if entries[:at + 1] != book[:at + 1]]
            self.assertEqual(fault(entries), parted[0])
        self.assertEqual([read(shown(entry)) for entry in book], book)
        for one in (floor, anew):
            one.come(5, "tea", 1)
        self.assertEqual(anew.hold(5, "tea", 1), floor.hold(5, "tea", 1))


if __name__ == "__main__":
    unittest.main()
