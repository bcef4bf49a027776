"""Namings: the ways in which two machines are one but for the names of their rooms."""

from opencells.errors import Unreached
from opencells.runs import reached
from opencells.walks import walk_both


def naming(one, other):
    """The room of the other machine for each room of the one, a tuple; None where they aren't one but for names."""
    for machine in (one, other):
        if len(reached(machine)) < len(machine[1]):
            raise Unreached("a machine has a room to which no row leads")
    many = len(one[1])
    if one[0] != other[0] or len(other[1]) != many:
        return None
    row, pairs = walk_both(one, other, (0, 0), are_unlike)
    # All rooms of both are come to: so with no more pairs than rooms each room is in just one.
    if row is not None or len(pairs) != many:
        return None
    return tuple([named for room, named in sorted(pairs)])


def are_unlike(cell, beside):
    """Whether two cells can't be one but for names: they say unlike things, or just one of them leads on."""
    return cell[1] != beside[1] or (cell[0] is None) != (beside[0] is None)
