"""Machines in which nothing is open: their blocks, and the one least machine of each."""

from opencells.errors import NotFull
from opencells.partings import parted_pairs
from opencells.runs import reached


def is_full(machine):
    """Whether none of a machine's cells has anything open."""
    return all([None not in cell for room in machine[1] for cell in room])


def blocks(machine):
    """The rising list of a full machine's blocks, rising tuples of rooms that fit."""
    if not is_full(machine):
        raise NotFull("the machine has a cell with something open")
    pairs = parted_pairs(machine)
    found = {}
    # Where nothing is open, rooms that fit the same room fit each other: so the first room stands for its block.
    for room in range(len(machine[1])):
        alike = [first for first in found if (first, room) not in pairs]
        if alike:
            found[alike[0]] += (room,)
        else:
            found[room] = (room,)
    return list(found.values())


def shrunk(machine):
    """The machine with a room for each block of a full one that is reached, in the order in which they are."""
    block_of = {room: block for block in blocks(machine) for room in block}
    numbers = {}
    for room, row in reached(machine):
        numbers.setdefault(block_of[room], len(numbers))
    asks, rooms = machine
    cells = [[(numbers[block_of[goes]], says) for goes, says in rooms[block[0]]] for block in numbers]
    return (asks, tuple([tuple(room) for room in cells]))
