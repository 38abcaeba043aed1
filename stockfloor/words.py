"""What a ware, a place and an amount are, and how others are refused."""

from stockfloor.errors import BadMany, BadPlace, BadWare

LONGEST_WARE = 20
LAST_PLACE = 9999
GREATEST = 10 ** 30


def is_whole(value):
    """Whether a value is a whole number."""
    # Python counts True and False among the integers, the document does not.
    return isinstance(value, int) and not isinstance(value, bool)


def check_ware(ware):
    """Refuses what is no ware."""
    if not isinstance(ware, str) or not 1 <= len(ware) <= LONGEST_WARE:
        raise BadWare("a ware is a text of 1 to 20 signs")
    for sign in ware:
        if not "a" <= sign <= "z":
            raise BadWare("each sign of a ware is a small letter from a to z")


def check_place(place):
    """Refuses what is no place."""
    if not is_whole(place) or not 0 <= place <= LAST_PLACE:
        raise BadPlace("a place is a whole number from 0 to 9999")


def check_many(many):
    """Refuses what is no amount."""
    if not is_whole(many) or not 1 <= many <= GREATEST:
        raise BadMany("an amount is a whole number from 1 to 10 ** 30")


def check_found(many):
    """Refuses what is no amount that may have been counted."""
    if not is_whole(many) or not 0 <= many <= GREATEST:
        raise BadMany("an amount that was counted is a whole number from 0 to 10 ** 30")
