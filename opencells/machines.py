"""Machines: tuples of how many asks there are, and of rooms with a cell for each ask."""

MOST_ASKS = 4
MOST_ROOMS = 24
ANSWERS = 8


def is_below(thing, count):
    """Whether a thing is a whole number from 0 to below count."""
    # Python counts True and False among the ints; here they are no numbers.
    return isinstance(thing, int) and not isinstance(thing, bool) and 0 <= thing < count


def are_unlike_below(thing, many, count):
    """Whether a thing is a tuple of so many unlike whole numbers from 0 to below count."""
    if not isinstance(thing, tuple) or len(thing) != many:
        return False
    return all([is_below(number, count) for number in thing]) and len(set(thing)) == many


def is_machine(thing):
    """Whether a thing, whatever it is, is a machine."""
    if not isinstance(thing, tuple) or len(thing) != 2:
        return False
    asks, rooms = thing
    if not is_below(asks, MOST_ASKS + 1) or asks == 0:
        return False
    if not isinstance(rooms, tuple) or not 1 <= len(rooms) <= MOST_ROOMS:
        return False
    return all([is_room(room, asks, len(rooms)) for room in rooms])


def is_room(thing, asks, many):
    """Whether a thing is a room of a machine with so many asks and so many rooms."""
    if not isinstance(thing, tuple) or len(thing) != asks:
        return False
    return all([is_cell(cell, many) for cell in thing])


def is_cell(thing, many):
    """Whether a thing is a cell of a machine with so many rooms."""
    if not isinstance(thing, tuple) or len(thing) != 2:
        return False
    goes, says = thing
    return (goes is None or is_below(goes, many)) and (says is None or is_below(says, ANSWERS))
