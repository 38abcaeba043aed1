"""Deeds done anew from the entries of a book."""

from stockfloor.errors import NoEntry, StockError
from stockfloor.floor import Floor


def done(floor, entry):
    """Does an entry on a floor; what the deed gives."""
    # A list would match the patterns below as well.
    if not isinstance(entry, tuple):
        raise NoEntry("an entry is a tuple")
    match entry:
        case ("come", place, ware, many):
            return floor.come(place, ware, many)
        case ("go", place, ware, many):
            return floor.go(place, ware, many)
        case ("move", start, goal, ware, many):
            return floor.move(start, goal, ware, many)
        case ("hold", place, ware, many):
            return floor.hold(place, ware, many)
        case ("let", number):
            return floor.let(number)
        case ("take", number):
            return floor.take(number)
        case ("shift", number, goal):
            return floor.shift(number, goal)
        case ("counted", place, ware, many):
            return floor.counted(place, ware, many)
        case ("wish", ware, many):
            return floor.wish(ware, many)
        case _:
            raise NoEntry("an entry is one of the nine words and its parts")


def replayed(book):
    """A new floor on which all entries of a book were done."""
    floor = Floor()
    for entry in book:
        done(floor, entry)
    return floor


def fault(book):
    """The place of the first entry of a book that is refused, from 0; None where there is none."""
    floor = Floor()
    for at, entry in enumerate(book):
        try:
            done(floor, entry)
        except StockError:
            return at
    return None
