"""Amounts of wares in places."""


class Tally:
    """An amount of each ware in each place, at first none."""

    def __init__(self):
        self._rows = {}

    def at(self, place, ware):
        """The amount of a ware in a place."""
        return self._rows.get(ware, {}).get(place, 0)

    def change(self, place, ware, by):
        """Adds to the amount of a ware in a place, or takes from it where `by` is below nought."""
        row = self._rows.setdefault(ware, {})
        row[place] = row.get(place, 0) + by

    def carry(self, start, goal, ware, many):
        """Brings an amount of a ware from one place to another one."""
        self.change(start, ware, -many)
        self.change(goal, ware, many)

    def filled(self, ware):
        """The places with some of a ware, rising."""
        row = self._rows.get(ware, {})
        return sorted([place for place in row if row[place] > 0])

    def total(self, ware):
        """The amount of a ware in all places together."""
        row = self._rows.get(ware, {})
        return sum([row[place] for place in row])
