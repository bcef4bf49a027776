"""The document's words taken straight, slow and apart from the package, to hold its answers against."""

import itertools


def go(machine, room, row):
    """What is said along a row, and the room at the end or None."""
    if not row or room is None:
        return [], room
    goes, says = machine[1][room][row[0]]
    answers, end = go(machine, goes, row[1:])
    return [says] + answers, end


def is_let(machine, room, row):
    """Whether the row is let from the room: the room ahead of its last ask is known."""
    return len(go(machine, room, row)[0]) == len(row)


def rows_to(asks, most):
    """All rows of one to so many asks, shorter ones first, then as tuples."""
    for many in range(1, most + 1):
        yield from itertools.product(range(asks), repeat=many)


def parts(machine, one, other, row):
    """Whether a row parts two rooms."""
    if not is_let(machine, one, row) or not is_let(machine, other, row):
        return False
    here, there = go(machine, one, row)[0][-1], go(machine, other, row)[0][-1]
    return here is not None and there is not None and here != there


def first_parting(machine, one, other):
    """The first row that parts two rooms; a shortest one comes to no pair of rooms twice."""
    rooms = len(machine[1])
    for row in rows_to(machine[0], rooms * (rooms - 1) // 2):
        if parts(machine, one, other, row):
            return row
    return None


def fails_at(machine, other, row):
    """Whether the other one fails to stand in the machine's place at this very row."""
    if not is_let(machine, 0, row):
        return False
    said, end = go(machine, 0, row)
    other_said, other_end = go(other, 0, row)
    if said[-1] is not None and (len(other_said) < len(row) or other_said[-1] != said[-1]):
        return True
    return end is not None and other_end is None


def first_failing(machine, other):
    """The first row at which the other one fails, None where it stands."""
    for row in rows_to(machine[0], len(machine[1]) * len(other[1])):
        if fails_at(machine, other, row):
            return row
    return None


def pairs_come_to(machine, other):
    """The pairs of known rooms to which rows that the machine lets lead from both begins."""
    found = {(0, 0)}
    for row in rows_to(machine[0], len(machine[1]) * len(other[1])):
        pair = (go(machine, 0, row)[1], go(other, 0, row)[1])
        if None not in pair:
            found.add(pair)
    return found


def part_by_sweeps(machine):
    """All pairs of rooms that part, found by sweeping till nothing more is found."""
    asks, rooms = machine
    found = set()
    while True:
        before = len(found)
        for one, other in itertools.combinations(range(len(rooms)), 2):
            for ask in range(asks):
                (goes, says), (other_goes, other_says) = rooms[one][ask], rooms[other][ask]
                if None not in (says, other_says) and says != other_says:
                    found.add((one, other))
                if None not in (goes, other_goes) and tuple(sorted((goes, other_goes))) in found:
                    found.add((one, other))
        if len(found) == before:
            return found


def all_lots(machine):
    """All lots, as sets."""
    parted = part_by_sweeps(machine)
    rooms = range(len(machine[1]))
    found = []
    for many in range(1, len(rooms) + 1):
        for lot in itertools.combinations(rooms, many):
            if not any(pair in parted for pair in itertools.combinations(lot, 2)):
                found.append(set(lot))
    return found


def greatest(machine):
    """All greatest lots, rising."""
    lots = all_lots(machine)
    return sorted(tuple(sorted(lot)) for lot in lots if not any(lot < more for more in lots))


class TooLong(Exception):
    """More tries than the asker looks at."""


class Tries:
    """Tries for m rooms, gone through one within the other, each settled by sweeps over all its ways."""

    def __init__(self, machine, m, limit=300):
        self.machine, self.m, self.limit = machine, m, limit
        self.parted = part_by_sweeps(machine)
        self.count = 0
        self.lots = None
        self.look([{0}], {})

    def behind(self, lot, ask):
        return {self.machine[1][room][ask][0] for room in lot} - {None}

    def look(self, lots, ways):
        """Whether this try, or one that it leads to, comes out."""
        self.count += 1
        if self.count > self.limit:
            raise TooLong
        lots = [set(lot) for lot in lots]
        while any(self.behind(lots[i], ask) - lots[t] for (i, ask), t in ways.items()):
            for (i, ask), t in ways.items():
                lots[t] |= self.behind(lots[i], ask)
        if any(pair in self.parted for lot in lots for pair in itertools.combinations(sorted(lot), 2)):
            return False
        gaps = [(i, ask) for i, lot in enumerate(lots) for ask in range(self.machine[0])
                if (i, ask) not in ways and self.behind(lot, ask)]
        if not gaps:
            self.lots = [tuple(sorted(lot)) for lot in lots]
            return True
        for t in range(len(lots) + 1):
            if t < self.m and self.look(lots + [set()] if t == len(lots) else lots, {**ways, gaps[0]: t}):
                return True
        return False
