"""Rows of asks, gone from a room."""

from opencells.machines import is_below


def is_row(thing, asks):
    """Whether a thing, whatever it is, is a row of so many asks' numbers."""
    return isinstance(thing, tuple) and all([is_below(ask, asks) for ask in thing])


def run(machine, room, row):
    """Go a row from a room: a tuple of the list of what was said, and the room at the end or None."""
    rooms = machine[1]
    answers = []
    here = room
    for ask in row:
        if here is None:
            break
        here, says = rooms[here][ask]
        answers.append(says)
    return (answers, here)


def lets(machine, room, row):
    """Whether each ask of a row is asked when it is gone from a room."""
    answers = run(machine, room, row)[0]
    return len(answers) == len(row)


def reached(machine):
    """The rooms that rows lead to from room 0: a list of tuples of a room and its row, in the order they are found."""
    asks, rooms = machine
    found = [(0, ())]
    seen = {0}
    at = 0
    while at < len(found):
        room, row = found[at]
        at += 1
        for ask in range(asks):
            goes = rooms[room][ask][0]
            if goes is not None and goes not in seen:
                seen.add(goes)
                found.append((goes, row + (ask,)))
    return found
