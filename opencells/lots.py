"""Lots: rooms that can be one, and where they lead."""

from opencells.errors import TooMany
from opencells.partings import parted_pairs

MOST_FOR_GREATEST = 12


def first_parted(pairs, lot):
    """The first two of some rising rooms that part, by parted_pairs; None where all fit."""
    for at, one in enumerate(lot):
        for other in lot[at + 1:]:
            if (one, other) in pairs:
                return (one, other)
    return None


def first_parted_lot(pairs, lots):
    """The first of some lots that has two rooms that part: a tuple of its number and the first such two, or None."""
    for i, lot in enumerate(lots):
        two = first_parted(pairs, lot)
        if two is not None:
            return (i,) + two
    return None


def fits(machine, rooms):
    """Whether no two of a tuple of rooms part, in whatever order and however often they stand there."""
    return first_parted(parted_pairs(machine), sorted(set(rooms))) is None


def followers(machine, rooms, ask):
    """The rising tuple of all rooms where the cells of some rooms go by an ask."""
    cells = [machine[1][room][ask] for room in rooms]
    return tuple(sorted({goes for goes, says in cells if goes is not None}))


def greatest_lots(machine):
    """The rising list of all lots that are within no other lot."""
    many = len(machine[1])
    if many > MOST_FOR_GREATEST:
        raise TooMany("greatest lots are told of at most 12 rooms")
    return sorted(greatest_with(parted_pairs(machine), (), list(range(many)), []))


def greatest_with(pairs, lot, more, past):
    """The greatest lots that have all of a lot, beside it only some of the rooms in more, and none of those in past.

    more and past together are just the rooms that fit all of the lot; those in more are behind it, and rising.
    """
    if not more and not past:
        return [lot]
    found = []
    for at, room in enumerate(more):
        rest = fitting(pairs, room, more[at + 1:])
        # A lot that could take a room passed over is not greatest, or was found with that room already.
        left = fitting(pairs, room, past + more[:at])
        found += greatest_with(pairs, lot + (room,), rest, left)
    return found


def fitting(pairs, room, others):
    """Those of some other rooms that fit a room."""
    return [other for other in others if (min(room, other), max(room, other)) not in pairs]
