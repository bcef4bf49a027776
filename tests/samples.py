"""Machines for the tests: some written out, some drawn by a number, always the same ones."""

import random

# Two asks, three rooms; room 2 has all open by ask 1.
SMALL = (2, (((1, 0), (0, None)), ((2, 1), (None, 3)), ((0, 0), (None, None))))

# Nothing in it is open.
FULL = (2, (((1, 0), (2, 1)), ((0, 0), (1, 1)), ((2, 1), (0, 0))))


def draw_machine(draw, rooms, asks, open_goes=0.3, open_says=0.4, answers=2):
    """A machine with so many rooms and asks, its cells open by chance."""
    def cell():
        goes = None if draw.random() < open_goes else draw.randrange(rooms)
        says = None if draw.random() < open_says else draw.randrange(answers)
        return (goes, says)
    return (asks, tuple(tuple(cell() for ask in range(asks)) for room in range(rooms)))


def drawn(seed, many, most_rooms, most_asks, answers=2):
    """So many drawn machines, of 1 to most_rooms rooms and 1 to most_asks asks, some more open than others."""
    draw = random.Random(seed)
    found = []
    for k in range(many):
        rooms = draw.randint(1, most_rooms)
        asks = draw.randint(1, most_asks)
        found.append(draw_machine(draw, rooms, asks, draw.choice((0, 0.2, 0.5)), draw.choice((0, 0.4, 0.8)), answers))
    return found


def draw_row(draw, asks, most):
    """A drawn row of at most so many asks."""
    return tuple(draw.randrange(asks) for k in range(draw.randint(0, most)))


def drawn_likeness(draw, machine):
    """A machine with as many asks, often one that nearly stands in the machine's place: filled, copied, then spoilt."""
    asks, rooms = machine
    cells = [[list(cell) for cell in room] for room in rooms]
    for room in cells:
        for cell in room:
            if cell[0] is None and draw.random() < 0.5:
                cell[0] = draw.randrange(len(rooms))
            if cell[1] is None and draw.random() < 0.5:
                cell[1] = draw.randrange(2)
    if draw.random() < 0.5:
        spoilt = draw.choice(draw.choice(cells))
        spoilt[draw.randrange(2)] = draw.choice((None, 0))
    return (asks, tuple(tuple(tuple(cell) for cell in room) for room in cells))


def ring(says):
    """One ask, leading round through as many rooms as there are answers, each saying its own."""
    many = len(says)
    return (1, tuple((((room + 1) % many, says[room]),) for room in range(many)))


def countdown(many, backs=None):
    """So many rooms in a row, the last of which alone says 1: all part. backs: where some rooms go by a second ask."""
    cells = [((room + 1, 0) if room < many - 1 else (None, 1),) for room in range(many)]
    if backs is None:
        return (1, tuple(cells))
    return (2, tuple(cell + ((backs.get(room), None),) for room, cell in enumerate(cells)))


def two_rings(one, other):
    """Two rings in one machine: from their first rooms, 0 and one, only the row that ends both at once parts them."""
    cells = [((room + 1) % one, 0 if room == one - 1 else None) for room in range(one)]
    cells += [(one + (room + 1) % other, 1 if room == other - 1 else None) for room in range(other)]
    return (1, tuple((cell,) for cell in cells))


def nested(deep, outer):
    """A thing with as many lists, tuples or dicts within one another."""
    thing = 0
    for k in range(deep):
        thing = outer(thing)
    return thing


# Things of all kinds that may stand where another one is due.
ODD_THINGS = [
    None, True, False, 0, 1, -1, 7, 10 ** 40, "", "0", "(0,)", b"", b"0", [], (), {}, set(), [None], [()], [[]], [{}],
    (0,), (0, 0), [0], [(0, 0)], [0, 0], {"a": 1}, {0: 0}, {(0, 0): (0, 0)}, object(), len, int, range(3),
    nested(120, lambda inner: [inner]), nested(120, lambda inner: (inner,)), nested(120, lambda inner: {0: inner}),
    nested(120, lambda inner: (0, inner)), nested(119, lambda inner: (inner, 0)), [()] * 25, [None] * 600,
]


def draw_sheet(draw, asks, most_rows, most_asks, answers=2, unknown=0.3):
    """A drawn sheet of at most so many rows, each of at most so many asks; its answers often clash."""
    sheet = []
    for k in range(draw.randint(0, most_rows)):
        row = tuple(draw.randrange(asks) for ask in range(draw.randint(1, most_asks)))
        told = tuple(None if draw.random() < unknown else draw.randrange(answers) for ask in row)
        sheet.append((row, told))
    return sheet


def draw_sheet_of(draw, machine, most_rows, most_asks, unknown=0.3):
    """A drawn sheet with which a machine agrees, but where one of its cells is open."""
    sheet = []
    for row, told in draw_sheet(draw, machine[0], most_rows, most_asks):
        room, said = 0, []
        for ask in row:
            if room is not None:
                room, says = machine[1][room][ask]
                said.append(None if draw.random() < unknown else says)
        sheet.append((row[:len(said)], tuple(said)))
    return sheet
