"""Tries: lots put together step by step, to make a machine of so many rooms.

A try is a tuple (lots, ways, fresh): lots a list of rising tuples of rooms, ways a dict from (lot's number, ask) to
a lot's number, fresh the list of the ways by which it is not settled yet.
"""

from opencells.errors import TooMany
from opencells.lots import first_parted, followers
from opencells.partings import parted_pairs


def first_try():
    """The try with which all begins."""
    return ([(0,)], {}, [])


def settled(machine, lots, ways, fresh):
    """The lots of a try when it is settled."""
    full = list(lots)
    waiting = list(fresh)
    while waiting:
        i, ask = waiting.pop()
        if (i, ask) not in ways:
            continue
        t = ways[(i, ask)]
        grown = tuple(sorted(set(full[t]) | set(followers(machine, full[i], ask))))
        if grown != full[t]:
            full[t] = grown
            # Only the ways of a lot that grew can lead to more than they did.
            waiting += [(t, again) for again in range(machine[0])]
    return full


def is_cut(pairs, lots):
    """Whether a lot has two rooms that part, by parted_pairs."""
    return any([first_parted(pairs, lot) is not None for lot in lots])


def gap_of(machine, lots, ways):
    """The first (lot's number, ask) that has followers and no way; None where there is none."""
    for i, lot in enumerate(lots):
        for ask in range(machine[0]):
            if (i, ask) not in ways and followers(machine, lot, ask):
                return (i, ask)
    return None


def tries_behind(lots, ways, gap, m):
    """The tries for m rooms to which a settled try leads by a gap, in their order."""
    return [with_way(lots, ways, gap, t) for t in range(min(len(lots) + 1, m))]


def with_way(lots, ways, gap, t):
    """A settled try with a way of the gap to lot t, a new one where there is no such lot yet."""
    more = list(lots) if t < len(lots) else lots + [()]
    longer = dict(ways)
    longer[gap] = t
    return (more, longer, [gap])


def tries_for(machine, m, most):
    """Go through the tries for m rooms: a tuple of how many, and the lots of the one that came out or None."""
    pairs = parted_pairs(machine)
    waiting = [first_try()]
    count = 0
    while waiting:
        lots, ways, fresh = waiting.pop()
        count += 1
        if count > most:
            raise TooMany("more tries than may be gone through")
        lots = settled(machine, lots, ways, fresh)
        if is_cut(pairs, lots):
            continue
        gap = gap_of(machine, lots, ways)
        if gap is None:
            return (count, lots)
        waiting += tries_behind(lots, ways, gap, m)[::-1]
    return (count, None)
