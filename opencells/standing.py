"""Machines that stand in another one's place, and pairs of rooms that show it."""

from opencells.errors import Unlike
from opencells.machines import is_below
from opencells.walks import walk_both


def cell_fault(cell, beside):
    """What a cell lacks in the place of another one: "says", "goes", or None where it lacks nothing."""
    if cell[1] is not None and beside[1] != cell[1]:
        return "says"
    if cell[0] is not None and beside[0] is None:
        return "goes"
    return None


def lacks(cell, beside):
    """Whether a cell lacks anything in the place of another one."""
    return cell_fault(cell, beside) is not None


def refuse_unlike(machine, other):
    """Refuse two machines with unlike counts of asks."""
    if machine[0] != other[0]:
        raise Unlike("the machines have unlike counts of asks")


def stands(machine, other):
    """Whether the other one stands in the machine's place: ("yes", pairs), or ("no", row)."""
    refuse_unlike(machine, other)
    row, pairs = walk_both(machine, other, (0, 0), lacks)
    if row is None:
        return ("yes", sorted(pairs))
    return ("no", row)


def pairs_fault(machine, other, thing):
    """The fault of a thing, whatever it is, as pairs that show that the other one stands; None where they do."""
    refuse_unlike(machine, other)
    if not is_list_of_pairs(thing, len(machine[1]), len(other[1])):
        return ("shape",)
    known = {pair: True for pair in thing}
    if (0, 0) not in known:
        return ("begin",)
    for k, (one, two) in enumerate(thing):
        for ask in range(machine[0]):
            fault = pair_fault(machine[1][one][ask], other[1][two][ask], known)
            if fault is not None:
                return (fault, k, ask)
    return None


def pair_fault(cell, beside, known):
    """The fault of two cells of a pair and an ask, where the pairs that are known stand; None where there is none."""
    fault = cell_fault(cell, beside)
    if fault is not None:
        return fault
    if cell[0] is not None and (cell[0], beside[0]) not in known:
        return "behind"
    return None


def is_list_of_pairs(thing, many, others):
    """Whether a thing is a list of tuples of a room below many and one below others."""
    return isinstance(thing, list) and all([is_pair(pair, many, others) for pair in thing])


def is_pair(thing, many, others):
    """Whether a thing is a tuple of a room below many and one below others."""
    if not isinstance(thing, tuple) or len(thing) != 2:
        return False
    return is_below(thing[0], many) and is_below(thing[1], others)
