"""Tries: lots put together step by step, to make a machine of so many rooms.

A try is a tuple (lots, ways, fresh): lots a list of rising tuples of rooms, ways a dict from (lot's number, ask) to
a lot's number, fresh the list of the ways by which it is not settled yet.
"""

from opencells.lots import first_parted_lot, followers
from opencells.partings import parted_pairs
from opencells.turns import go_through


def first_try():
    """The try with which all begins."""
    return ([(0,)], {}, [])


def settled(machine, lots, ways, fresh):
    """The lots of a try when it is settled."""
    full = list(lots)
    waiting = list(fresh)
    while waiting:
        i, ask = waiting.pop()
        if (i, ask) not in ways:
            continue
        t = ways[(i, ask)]
        grown = tuple(sorted(set(full[t]) | set(followers(machine, full[i], ask))))
        if grown != full[t]:
            full[t] = grown
            # Only the ways of a lot that grew can lead to more than they did.
            waiting += [(t, again) for again in range(machine[0])]
    return full


def gap_of(machine, lots, ways):
    """The first (lot's number, ask) that has followers and no way; None where there is none."""
    for i, lot in enumerate(lots):
        for ask in range(machine[0]):
            if (i, ask) not in ways and followers(machine, lot, ask):
                return (i, ask)
    return None


def tries_behind(lots, ways, gap, m):
    """The tries for m rooms to which a settled try leads by a gap, in their order."""
    return [with_way(lots, ways, gap, t) for t in range(min(len(lots) + 1, m))]


def with_way(lots, ways, gap, t):
    """A settled try with a way of the gap to lot t, a new one where there is no such lot yet."""
    more = list(lots) if t < len(lots) else lots + [()]
    longer = dict(ways)
    longer[gap] = t
    return (more, longer, [gap])


def look_at(machine, pairs, m, one):
    """Look at a try for m rooms, as go_through asks: what comes out are its settled lots and its ways."""
    lots, ways, fresh = one
    full = settled(machine, lots, ways, fresh)
    cut = first_parted_lot(pairs, full)
    if cut is not None:
        return (None, ("cut",) + cut, None)
    gap = gap_of(machine, full, ways)
    if gap is None:
        return ((full, ways), None, None)
    return (None, ("gap",) + gap, tries_behind(full, ways, gap, m))


def through_tries(machine, pairs, m, most):
    """Go through the tries for m rooms, pairs being the parted_pairs: a tuple (count, out, steps), as of go_through.

    The head of a step is ("cut", lot's number, room, room), or ("gap", lot's number, ask).
    """
    return go_through(first_try(), lambda one: look_at(machine, pairs, m, one), most)


def tries_for(machine, m, most):
    """Go through the tries for m rooms: a tuple of how many, and the lots of the one that came out or None."""
    count, out, steps = through_tries(machine, parted_pairs(machine), m, most)
    return (count, None if out is None else out[0])
