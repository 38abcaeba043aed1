"""The floor: what is there, what is held, and the deeds that change it."""

from stockfloor.errors import NoHold, SamePlace, TooFew
from stockfloor.tally import Tally
from stockfloor.wishes import dealt
from stockfloor.words import check_found, check_many, check_place, check_ware, is_whole


def _check_apart(start, goal):
    """Refuses a start that is the goal, too."""
    if start == goal:
        raise SamePlace("start and goal are the same place")


def _add(sums, ware, many):
    """Adds to a ware's sum."""
    sums[ware] = sums.get(ware, 0) + many


class Floor:
    """How much of each ware lies in each place, what of it is held, and what was done."""

    def __init__(self):
        self._there = Tally()
        self._held = Tally()
        self._holds = {}
        self._last_number = 0
        self._came = {}
        self._went = {}
        self._righted = {}
        self._book = []

    def come(self, place, ware, many):
        """An amount more is there."""
        check_ware(ware)
        check_place(place)
        check_many(many)
        self._there.change(place, ware, many)
        _add(self._came, ware, many)
        self._book.append(("come", place, ware, many))

    def go(self, place, ware, many):
        """An amount that is free is there no more."""
        check_ware(ware)
        check_place(place)
        check_many(many)
        self._check_free(place, ware, many)
        self._there.change(place, ware, -many)
        _add(self._went, ware, many)
        self._book.append(("go", place, ware, many))

    def move(self, start, goal, ware, many):
        """An amount that is free in one place is in another place."""
        check_ware(ware)
        check_place(start)
        check_place(goal)
        _check_apart(start, goal)
        check_many(many)
        self._check_free(start, ware, many)
        self._there.carry(start, goal, ware, many)
        self._book.append(("move", start, goal, ware, many))

    def hold(self, place, ware, many):
        """An amount that is free is held; the hold's number."""
        check_ware(ware)
        check_place(place)
        check_many(many)
        self._check_free(place, ware, many)
        number = self._new_hold(place, ware, many)
        self._book.append(("hold", place, ware, many))
        return number

    def let(self, number):
        """The hold is over, what it held is free."""
        many = self._standing(number)[2]
        self._lessen(number, many)
        self._book.append(("let", number))

    def take(self, number):
        """The hold is over, what it held is there no more."""
        place, ware, many = self._standing(number)
        self._lessen(number, many)
        self._there.change(place, ware, -many)
        _add(self._went, ware, many)
        self._book.append(("take", number))

    def shift(self, number, goal):
        """What is held is in another place, and held there under the same number."""
        start, ware, many = self._standing(number)
        check_place(goal)
        _check_apart(start, goal)
        self._there.carry(start, goal, ware, many)
        self._held.carry(start, goal, ware, many)
        self._holds[number] = (goal, ware, many)
        self._book.append(("shift", number, goal))

    def counted(self, place, ware, many):
        """Just so much is there; the pairs (hold's number, how much it lost)."""
        check_ware(ware)
        check_place(place)
        check_found(many)
        more = many - self.there(place, ware)
        lost = self._lose(place, ware, self.held(place, ware) - many)
        self._there.change(place, ware, more)
        _add(self._righted, ware, more)
        self._book.append(("counted", place, ware, many))
        return lost

    def wish(self, ware, many):
        """An amount is held wherever it is free; the numbers of the holds."""
        check_ware(ware)
        check_many(many)
        rooms = [(place, self.free(place, ware)) for place in self.places(ware)]
        numbers = []
        for place, part in dealt(rooms, many):
            numbers.append(self._new_hold(place, ware, part))
        self._book.append(("wish", ware, many))
        return numbers

    def there(self, place, ware):
        """How much of a ware is in a place."""
        return self._there.at(place, ware)

    def held(self, place, ware):
        """How much of a ware is held in a place."""
        return self._held.at(place, ware)

    def free(self, place, ware):
        """How much of a ware is in a place and not held."""
        return self.there(place, ware) - self.held(place, ware)

    def whole(self, ware):
        """How much of a ware is in all places together."""
        return self._there.total(ware)

    def came(self, ware):
        """How much of a ware came in all."""
        return self._came.get(ware, 0)

    def went(self, ware):
        """How much of a ware went in all."""
        return self._went.get(ware, 0)

    def righted(self, ware):
        """How much more of a ware was found than was there ahead, in all; it may be below nought."""
        return self._righted.get(ware, 0)

    def places(self, ware):
        """The places where some of a ware is there, rising."""
        return self._there.filled(ware)

    def numbers(self):
        """The numbers of the standing holds, rising."""
        return sorted(self._holds)

    def holding(self, number):
        """What a standing hold holds, (place, ware, amount); None of anything else."""
        # True would be found as 1, and a list can't be looked up.
        if not is_whole(number):
            return None
        return self._holds.get(number)

    def book(self):
        """The deeds that were done, in order."""
        return list(self._book)

    def _check_free(self, place, ware, many):
        """Refuses more than is free in a place."""
        if self.free(place, ware) < many:
            raise TooFew("less is free in this place than is asked for")

    def _standing(self, number):
        """What a standing hold holds; refuses what is the number of none."""
        held = self.holding(number)
        if held is None:
            raise NoHold("no hold with this number stands")
        return held

    def _new_hold(self, place, ware, many):
        """Holds an amount under the next number."""
        self._last_number += 1
        self._holds[self._last_number] = (place, ware, many)
        self._held.change(place, ware, many)
        return self._last_number

    def _lessen(self, number, by):
        """Frees a part of what a hold holds; the hold is over where that is all of it."""
        place, ware, many = self._holds[number]
        self._held.change(place, ware, -by)
        if by == many:
            del self._holds[number]
        else:
            self._holds[number] = (place, ware, many - by)

    def _lose(self, place, ware, lack):
        """Takes what lacks from the holds in a place; the pairs (hold's number, how much it lost)."""
        lost = []
        # Most counts leave the holds alone, and need not look through them.
        if lack <= 0:
            return lost
        for number in self._latest_first(place, ware):
            part = min(lack, self._holds[number][2])
            self._lessen(number, part)
            lost.append((number, part))
            lack -= part
            if lack == 0:
                break
        return lost

    def _latest_first(self, place, ware):
        """The numbers of the standing holds of a ware in a place, falling."""
        numbers = [number for number, held in self._holds.items() if held[:2] == (place, ware)]
        return sorted(numbers, reverse=True)
