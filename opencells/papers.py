"""Papers that show that a machine needs so many rooms, whoever wrote them."""

from opencells.lots import followers
from opencells.machines import is_below
from opencells.partings import parts
from opencells.runs import is_row, run
from opencells.tries import first_try, settled, tries_behind


def needs(machine, many, thing):
    """Whether a thing, whatever it is, is a paper that so many rooms are needed."""
    if is_form(thing, "parted", 3):
        return are_parted(machine, many, thing[1], thing[2])
    if is_form(thing, "tries", 2):
        return is_tree(machine, many - 1, thing[1])
    return False


def is_form(thing, word, many):
    """Whether a thing is a tuple of so many things, a word first."""
    return isinstance(thing, tuple) and len(thing) == many and isinstance(thing[0], str) and thing[0] == word


def are_parted(machine, many, rooms, rows):
    """Whether rooms are as many rooms, each with a row that goes to it, and rows a row for each two that parts them."""
    if not isinstance(rooms, tuple) or len(rooms) != many:
        return False
    if not all([is_room_gone_to(machine, place) for place in rooms]):
        return False
    twos = [(one[0], other[0]) for at, one in enumerate(rooms) for other in rooms[at + 1:]]
    if not isinstance(rows, tuple) or len(rows) != len(twos):
        return False
    return all([is_parted_by(machine, one, other, row) for (one, other), row in zip(twos, rows)])


def is_room_gone_to(machine, thing):
    """Whether a thing is a tuple of a room and a row that goes to it from room 0."""
    if not isinstance(thing, tuple) or len(thing) != 2:
        return False
    room, row = thing
    return is_below(room, len(machine[1])) and is_row(row, machine[0]) and run(machine, 0, row)[1] == room


def is_parted_by(machine, one, other, thing):
    """Whether a thing is a row that parts two rooms."""
    return is_row(thing, machine[0]) and parts(machine, one, other, thing)


def is_tree(machine, m, thing):
    """Whether a thing is a tree for the first try for m rooms."""
    waiting = [(first_try(), thing)]
    while waiting:
        (lots, ways, fresh), tree = waiting.pop()
        full = settled(machine, lots, ways, fresh)
        if is_gap(machine, full, ways, tree):
            behind = tries_behind(full, ways, (tree[1], tree[2]), m)
            if not isinstance(tree[3], tuple) or len(tree[3]) != len(behind):
                return False
            waiting += list(zip(behind, tree[3]))
        elif not is_cut(machine, full, tree):
            return False
    return True


def is_cut(machine, lots, thing):
    """Whether a thing is a tree that tells two rooms of one of the lots, and a row that parts them."""
    if not is_form(thing, "cut", 5) or not is_below(thing[1], len(lots)):
        return False
    one, other = thing[2], thing[3]
    many = len(machine[1])
    if not is_below(one, many) or not is_below(other, many):
        return False
    lot = lots[thing[1]]
    return one in lot and other in lot and is_parted_by(machine, one, other, thing[4])


def is_gap(machine, lots, ways, thing):
    """Whether a thing is a tree that tells a lot's number and an ask that have followers and no way."""
    if not is_form(thing, "gap", 4):
        return False
    i, ask = thing[1], thing[2]
    if not is_below(i, len(lots)) or not is_below(ask, machine[0]):
        return False
    return (i, ask) not in ways and len(followers(machine, lots[i], ask)) > 0
