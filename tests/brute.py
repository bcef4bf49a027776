"""The document's words taken straight, slow and apart from the package, to hold its answers against."""

import itertools


def go(machine, room, row):
    """What is said along a row, and the room at the end or None."""
    said = []
    for ask in row:
        if room is None:
            return said, None
        goes, says = machine[1][room][ask]
        said, room = said + [says], goes
    return said, room


def is_let(machine, room, row):
    """Whether the row is let from the room: the room ahead of its last ask is known."""
    return len(go(machine, room, row)[0]) == len(row)


def rows_to(asks, most):
    """All rows of one to so many asks, shorter ones first, then as tuples."""
    for many in range(1, most + 1):
        yield from itertools.product(range(asks), repeat=many)


def parts(machine, one, other, row):
    """Whether a row parts two rooms."""
    if not row or not is_let(machine, one, row) or not is_let(machine, other, row):
        return False
    here, there = go(machine, one, row)[0][-1], go(machine, other, row)[0][-1]
    return here is not None and there is not None and here != there


def first_parting(machine, one, other):
    """The first row that parts two rooms; a shortest one comes to no pair of rooms twice."""
    rooms = len(machine[1])
    for row in rows_to(machine[0], rooms * (rooms - 1) // 2):
        if parts(machine, one, other, row):
            return row
    return None


def fails_at(machine, other, row):
    """Whether the other one fails to stand in the machine's place at this very row."""
    if not is_let(machine, 0, row):
        return False
    said, end = go(machine, 0, row)
    other_said, other_end = go(other, 0, row)
    if said[-1] is not None and (len(other_said) < len(row) or other_said[-1] != said[-1]):
        return True
    return end is not None and other_end is None


def first_failing(machine, other):
    """The first row at which the other one fails, None where it stands."""
    for row in rows_to(machine[0], len(machine[1]) * len(other[1])):
        if fails_at(machine, other, row):
            return row
    return None


def pairs_come_to(machine, other):
    """The pairs of known rooms to which rows that the machine lets lead from both begins."""
    found = {(0, 0)}
    for row in rows_to(machine[0], len(machine[1]) * len(other[1])):
        pair = (go(machine, 0, row)[1], go(other, 0, row)[1])
        if None not in pair:
            found.add(pair)
    return found


def part_by_sweeps(machine):
    """All pairs of rooms that part, found by sweeping till nothing more is found."""
    asks, rooms = machine
    found = set()
    while True:
        before = len(found)
        for one, other in itertools.combinations(range(len(rooms)), 2):
            for ask in range(asks):
                (goes, says), (other_goes, other_says) = rooms[one][ask], rooms[other][ask]
                if None not in (says, other_says) and says != other_says:
                    found.add((one, other))
                if None not in (goes, other_goes) and tuple(sorted((goes, other_goes))) in found:
                    found.add((one, other))
        if len(found) == before:
            return found


def all_lots(machine):
    """All lots, as sets."""
    parted = part_by_sweeps(machine)
    rooms = range(len(machine[1]))
    found = []
    for many in range(1, len(rooms) + 1):
        for lot in itertools.combinations(rooms, many):
            if not any(pair in parted for pair in itertools.combinations(lot, 2)):
                found.append(set(lot))
    return found


def greatest(machine):
    """All greatest lots, rising."""
    lots = all_lots(machine)
    return sorted(tuple(sorted(lot)) for lot in lots if not any(lot < more for more in lots))


class TooLong(Exception):
    """More tries than the asker looks at."""


def behind(machine, lot, ask):
    """The set of the rooms where a lot's cells go by an ask."""
    return {machine[1][room][ask][0] for room in lot} - {None}


def settle(machine, lots, ways):
    """The lots, sets, of a try when it is settled, by sweeps over all its ways."""
    lots = [set(lot) for lot in lots]
    while any(behind(machine, lots[i], ask) - lots[t] for (i, ask), t in ways.items()):
        for (i, ask), t in ways.items():
            lots[t] |= behind(machine, lots[i], ask)
    return lots


def all_gaps(machine, lots, ways):
    """All (i, ask) of a try that have followers and no way, by i, then by ask."""
    return [(i, ask) for i, lot in enumerate(lots) for ask in range(machine[0])
            if (i, ask) not in ways and behind(machine, lot, ask)]


def led_to(lots, ways, gap, m):
    """The tries for m, not settled yet, to which a try leads by a gap."""
    return [(lots + [set()] if t == len(lots) else lots, {**ways, gap: t}) for t in range(len(lots) + 1) if t < m]


class Tries:
    """Tries for m rooms, gone through one within the other."""

    def __init__(self, machine, m, limit=300):
        self.machine, self.m, self.limit = machine, m, limit
        self.parted = part_by_sweeps(machine)
        self.count = 0
        self.lots = self.ways = None
        self.look([{0}], {})

    def look(self, lots, ways):
        """Whether this try, or one that it leads to, comes out."""
        self.count += 1
        if self.count > self.limit:
            raise TooLong
        lots = settle(self.machine, lots, ways)
        if any(pair in self.parted for lot in lots for pair in itertools.combinations(sorted(lot), 2)):
            return False
        gaps = all_gaps(self.machine, lots, ways)
        if not gaps:
            self.lots, self.ways = [tuple(sorted(lot)) for lot in lots], ways
            return True
        return any(self.look(more, longer) for more, longer in led_to(lots, ways, gaps[0], self.m))


def is_number(thing, below):
    """Whether a thing is a whole number from 0 to below a count."""
    return type(thing) is int and thing in range(below)


def is_row(machine, thing):
    """Whether a thing is a row of the machine's asks."""
    return type(thing) is tuple and all(is_number(ask, machine[0]) for ask in thing)


def is_paper(machine, many, thing):
    """Whether a thing is a paper that a machine needs so many rooms."""
    if type(thing) is not tuple or not thing:
        return False
    if thing[0] == "parted" and len(thing) == 3:
        return is_parted_paper(machine, many, thing[1], thing[2])
    return thing[0] == "tries" and len(thing) == 2 and is_tree(machine, many - 1, [{0}], {}, thing[1])


def is_parted_paper(machine, many, rooms, rows):
    """Whether rooms and rows are those of a paper of rooms that part."""
    if type(rooms) is not tuple or type(rows) is not tuple or len(rooms) != many:
        return False
    for place in rooms:
        if type(place) is not tuple or len(place) != 2 or not is_row(machine, place[1]):
            return False
        if not is_number(place[0], len(machine[1])) or go(machine, 0, place[1])[1] != place[0]:
            return False
    twos = list(itertools.combinations([room for room, row in rooms], 2))
    return len(rows) == len(twos) and all(
        is_row(machine, row) and parts(machine, one, other, row) for (one, other), row in zip(twos, rows))


def is_tree(machine, m, lots, ways, thing):
    """Whether a thing is a tree for a try for m rooms."""
    lots = settle(machine, lots, ways)
    if type(thing) is not tuple or not thing or len(thing) < 2 or not is_number(thing[1], len(lots)):
        return False
    if thing[0] == "cut" and len(thing) == 5:
        rooms = range(len(machine[1]))
        return (all(is_number(room, len(rooms)) and room in lots[thing[1]] for room in thing[2:4])
                and is_row(machine, thing[4]) and parts(machine, thing[2], thing[3], thing[4]))
    if thing[0] != "gap" or len(thing) != 4 or not is_number(thing[2], machine[0]):
        return False
    if (thing[1], thing[2]) not in all_gaps(machine, lots, ways) or type(thing[3]) is not tuple:
        return False
    tries = led_to(lots, ways, (thing[1], thing[2]), m)
    return len(tries) == len(thing[3]) and all(
        is_tree(machine, m, more, longer, tree) for (more, longer), tree in zip(tries, thing[3]))


def least(machine):
    """The machine, the lots, and how many tries counted together, of the least machine; TooLong beyond 300."""
    total = 0
    for m in range(1, 25):
        tries = Tries(machine, m, 300 - total)
        total += tries.count
        if tries.lots is not None:
            return (machine[0], tuple(least_room(machine, tries, i) for i in range(len(tries.lots)))), tries.lots, total


def least_room(machine, tries, i):
    """The room of lot i of tries that came out."""
    cells = []
    for ask in range(machine[0]):
        said = {machine[1][room][ask][1] for room in tries.lots[i]} - {None}
        cells.append((tries.ways.get((i, ask)), *(said or {None})))
    return tuple(cells)


def all_machines(asks, rooms, answers, may_be_open=True):
    """All machines with so many asks and rooms, and answers below a count."""
    more = [None] if may_be_open else []
    cells = list(itertools.product(list(range(rooms)) + more, list(range(answers)) + more))
    for whole in itertools.product(itertools.product(cells, repeat=asks), repeat=rooms):
        yield (asks, whole)


def is_naming(one, other, names):
    """Whether a tuple, an order of the rooms, is a naming of two machines with as many asks and rooms."""
    if names[0] != 0:
        return False
    named = {None: None, **dict(enumerate(names))}
    return all((named[goes], says) == other[1][names[room]][ask]
               for room, cells in enumerate(one[1]) for ask, (goes, says) in enumerate(cells))
