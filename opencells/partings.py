"""Rows that part two rooms, and the rooms that part."""

from opencells.runs import run
from opencells.walks import walk_both


def answers_unlike(one, other):
    """Whether two things said are both answers, unlike ones."""
    return one is not None and other is not None and one != other


def say_unlike(cell, beside):
    """Whether two cells both say answers, unlike ones."""
    return answers_unlike(cell[1], beside[1])


def parts(machine, one, other, row):
    """Whether a row parts two rooms."""
    here = run(machine, one, row)[0]
    there = run(machine, other, row)[0]
    if not row or len(here) < len(row) or len(there) < len(row):
        return False
    return answers_unlike(here[-1], there[-1])


def parting(machine, one, other):
    """The shortest row that parts two rooms, of those as short the first as tuples; None where no row does."""
    return walk_both(machine, machine, (one, other), say_unlike)[0]


def parted(machine):
    """The rising list of all tuples of two rooms that part, the lesser one first."""
    return sorted(parted_pairs(machine))


def parted_pairs(machine):
    """A dict whose keys are the tuples of two rooms that part, the lesser one first."""
    waiting = pairs_at_once(machine)
    sources = pairs_ahead(machine)
    found = {pair: True for pair in waiting}
    # Where a pair parts, so do all from which one ask leads to it: so no pair needs a row of its own.
    while waiting:
        pair = waiting.pop()
        for source in sources.get(pair, []):
            if source not in found:
                found[source] = True
                waiting.append(source)
    return found


def all_pairs(machine):
    """All tuples of two rooms, the lesser one first."""
    many = len(machine[1])
    return [(one, other) for one in range(many) for other in range(one + 1, many)]


def pairs_at_once(machine):
    """The pairs of rooms that a row of one ask parts."""
    asks, rooms = machine
    return [
        (one, other)
        for one, other in all_pairs(machine)
        if any([say_unlike(rooms[one][ask], rooms[other][ask]) for ask in range(asks)])
    ]


def pairs_ahead(machine):
    """For each pair of rooms, the list of the pairs from which one ask leads to it."""
    asks, rooms = machine
    sources = {}
    for one, other in all_pairs(machine):
        for ask in range(asks):
            behind = (rooms[one][ask][0], rooms[other][ask][0])
            if None not in behind:
                pair = (min(behind), max(behind))
                sources.setdefault(pair, []).append((one, other))
    return sources
