"""By which parts a wish is held, over the places where some is free."""

from stockfloor.errors import TooFew


def dealt(rooms, many):
    """The pairs (place, part) that hold `many`, out of the pairs (place, free) of `rooms`."""
    if _together(rooms) < many:
        # Without the amounts: Python does not write out numbers of some thousand digits.
        raise TooFew("less is free in all places together than is wished")
    parts = []
    wanted = many
    for place, free in sorted(rooms, key=_most_free_first):
        if wanted <= 0:
            break
        part = min(free, wanted)
        parts.append((place, part))
        wanted -= part
    return parts


def _together(rooms):
    """How much is free in all rooms."""
    return sum([free for _, free in rooms])


def _most_free_first(room):
    """Where a room stands among the others when they are sorted by this."""
    place, free = room
    return (-free, place)
