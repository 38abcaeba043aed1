"""Entries of a book as texts, and back."""

from stockfloor.errors import NoEntry, NoHold, NoLine, StockError
from stockfloor.words import GREATEST, check_found, check_many, check_place, check_ware, is_whole

# As many has 10 ** 30; Python reads no text of some thousand figures as a number.
MOST_FIGURES = 31


def shown(entry):
    """An entry as a text."""
    _check_entry(entry)
    return " ".join([str(part) for part in entry])


def read(line):
    """The entry that is written so."""
    if not isinstance(line, str):
        raise NoLine("a line is a text")
    entry = tuple([_part(text) for text in line.split(" ")])
    try:
        _check_entry(entry)
    except StockError:
        raise NoLine("the text is written so for no entry") from None
    return entry


def _part(text):
    """The number that a text is written for; the text itself where there is none."""
    if len(text) > MOST_FIGURES or not text.isascii() or not text.isdigit():
        return text
    number = int(text)
    # No part of an entry is greater; and a number with a 0 ahead is written otherwise.
    if number > GREATEST or str(number) != text:
        return text
    return number


def _check_entry(entry):
    """Refuses what is no entry that can be written; whether it could be done is not looked at."""
    if not isinstance(entry, tuple):
        raise NoEntry("an entry is a tuple")
    match entry:
        case ("come" | "go" | "hold", place, ware, many):
            check_ware(ware)
            check_place(place)
            check_many(many)
        case ("move", start, goal, ware, many):
            check_ware(ware)
            check_place(start)
            check_place(goal)
            check_many(many)
        case ("let" | "take", number):
            _check_number(number)
        case ("shift", number, goal):
            _check_number(number)
            check_place(goal)
        case ("counted", place, ware, many):
            check_ware(ware)
            check_place(place)
            check_found(many)
        case ("wish", ware, many):
            check_ware(ware)
            check_many(many)
        case _:
            raise NoEntry("an entry is one of the nine words and its parts")


def _check_number(number):
    """Refuses what can be the number of no hold."""
    if not is_whole(number) or number < 1:
        raise NoHold("a hold's number is a whole number from 1 on")
