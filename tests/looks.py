"""What several tests share: a look at a whole floor, and values that are none of a kind."""

from stockfloor.floor import Floor

GREAT = 10 ** 30

WARES = ("tea", "teas", "eat", "a", "z", "coffee", "abcdefghijklmnopqrst")
PLACES = (0, 1, 2, 3, 4, 5, 10, 9998, 9999)

# Signs that are no small letter from a to z: the neighbours of a and z in ASCII among them.
NO_LETTERS = ("A", "Z", "T", "0", "1", "9", " ", "_", "-", ".", "`", "{", "\n", "\t", "\r", "\x00", "\x7f")

NO_WARES = (
    "", "abcdefghijklmnopqrstu", "a" * 21, "a" * 5000,
    *NO_LETTERS,
    *(sign + "ea" for sign in NO_LETTERS),
    *("t" + sign + "a" for sign in NO_LETTERS),
    *("te" + sign for sign in NO_LETTERS),
    *("tea" + sign for sign in NO_LETTERS),
    "a" * 20 + "\n", "a" * 19 + "A",
    True, False, None, 0, 3, (), ("tea",), ("t", "e", "a"), [], ["tea"], ["t", "e", "a"], b"tea", {"tea": 1},
)

NO_WHOLE_NUMBERS = (True, False, None, "", "1", "tea", (), (1,), [], [1], b"1", {1: 1})

NO_PLACES = (*NO_WHOLE_NUMBERS, -1, -2, 10000, 10001, GREAT, -GREAT)

NO_COUNTS = (*NO_WHOLE_NUMBERS, -1, -2, -GREAT, GREAT + 1, GREAT * 10)

NO_AMOUNTS = (*NO_COUNTS, 0)


def look(floor, wares=WARES, places=PLACES):
    """All that a floor tells, as one value that can be compared."""
    numbers = floor.numbers()
    return {
        "book": floor.book(),
        "numbers": numbers,
        "holding": [floor.holding(number) for number in range(max(numbers, default=0) + 3)],
        "wares": [
            (ware, floor.places(ware), floor.whole(ware), floor.came(ware), floor.went(ware), floor.righted(ware))
            for ware in wares
        ],
        "places": [
            (place, ware, floor.there(place, ware), floor.held(place, ware), floor.free(place, ware))
            for ware in wares for place in places
        ],
    }


def stocked():
    """A floor with several wares in several places, free and held; holds 2 and 5 are over."""
    floor = Floor()
    floor.come(3, "tea", 10)
    floor.come(4, "tea", 6)
    floor.come(3, "teas", 20)
    floor.come(4, "eat", 30)
    assert floor.hold(3, "tea", 4) == 1
    assert floor.hold(4, "tea", 1) == 2
    assert floor.hold(4, "eat", 30) == 3
    assert floor.hold(3, "tea", 1) == 4
    assert floor.hold(3, "teas", 7) == 5
    floor.let(2)
    floor.take(5)
    return floor


# What is free of stocked()'s tea in place 3, and the number that its next hold has.
FREE_TEA = 5
NEXT_NUMBER = 6
