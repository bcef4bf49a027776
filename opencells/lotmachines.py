"""Closed lists of lots, and the machines they make."""

from opencells.errors import NotClosed
from opencells.lots import first_parted_lot, followers
from opencells.machines import MOST_ROOMS, is_below
from opencells.partings import parted_pairs


def lots_fault(machine, thing):
    """The fault of a thing, whatever it is, as a closed list of lots; None where it is one."""
    if not is_list_of_rooms(thing, len(machine[1])):
        return ("shape",)
    cut = first_parted_lot(parted_pairs(machine), thing)
    if cut is not None:
        return ("parted",) + cut
    if 0 not in thing[0]:
        return ("begin",)
    for i, lot in enumerate(thing):
        for ask in range(machine[0]):
            behind = followers(machine, lot, ask)
            if behind and first_lot_of(thing, behind) is None:
                return ("behind", i, ask)
    return None


def is_list_of_rooms(thing, many):
    """Whether a thing is a list of as many rising tuples, none empty, of rooms below many, as a machine may have."""
    if not isinstance(thing, list) or not 1 <= len(thing) <= MOST_ROOMS:
        return False
    return all([is_rising_rooms(rooms, many) for rooms in thing])


def is_rising_rooms(thing, many):
    """Whether a thing is a rising tuple of one room or more, each below many."""
    if not isinstance(thing, tuple) or not 1 <= len(thing) <= many:
        return False
    if not all([is_below(room, many) for room in thing]):
        return False
    return all([low < high for low, high in zip(thing, thing[1:])])


def first_lot_of(lots, rooms):
    """The number of the first lot in which all of some rooms lie; None where they lie in none."""
    for i, lot in enumerate(lots):
        if all([room in lot for room in rooms]):
            return i
    return None


def answer_of(machine, lot, ask):
    """The answer that some room of a lot says at an ask; None where none does."""
    for room in lot:
        says = machine[1][room][ask][1]
        if says is not None:
            return says
    return None


def made(machine, thing):
    """The machine that a closed list of lots makes; all else is refused with NotClosed."""
    fault = lots_fault(machine, thing)
    if fault is not None:
        raise NotClosed(fault)
    asks = machine[0]
    rooms = [tuple([made_cell(machine, thing, lot, ask) for ask in range(asks)]) for lot in thing]
    return (asks, tuple(rooms))


def made_cell(machine, lots, lot, ask):
    """The cell of a lot, one of a closed list of lots, and an ask."""
    behind = followers(machine, lot, ask)
    goes = first_lot_of(lots, behind) if behind else None
    return (goes, answer_of(machine, lot, ask))
