"""[34] orders and other names; [3] with names exchanged all is exchanged."""

import itertools
import random
import unittest

from opencells.errors import TooMany
from opencells.fulls import blocks, is_full, shrunk
from opencells.growth import filled
from opencells.least import least, paper_for
from opencells.lotmachines import lots_fault, made
from opencells.lots import fits, followers, greatest_lots
from opencells.machines import is_machine
from opencells.names import is_order, renamed
from opencells.namings import naming
from opencells.papers import needs
from opencells.partings import parted, parting
from opencells.runs import lets, reached, run
from opencells.sheets import disagrees
from opencells.standing import pairs_fault, stands
from tests import brute
from tests.samples import FULL, ODD_THINGS, SMALL, draw_machine, draw_row, draw_sheet_of, drawn, drawn_likeness, ring
from tests.spoil import spoilt

SAME_ANSWERS = tuple(range(8))


def same(many):
    """The order that leaves all names."""
    return tuple(range(many))


def draw_order(draw, many):
    return tuple(draw.sample(range(many), many))


def draw_names(draw, machine):
    """Drawn orders of a machine's rooms, its asks and the answers; room 0 stays."""
    many = len(machine[1])
    rooms = (0,) + tuple(1 + number for number in draw_order(draw, many - 1))
    return rooms, draw_order(draw, machine[0]), draw_order(draw, 8)


def turned(order):
    """The order that takes back another one."""
    return tuple(order.index(number) for number in range(len(order)))


def name(order, number):
    return None if number is None else order[number]


def brute_renamed(machine, rooms, asks, answers):
    """The machine with other names, cell by cell put where it belongs."""
    cells = [[None] * machine[0] for room in machine[1]]
    for room, row in enumerate(machine[1]):
        for ask, (goes, says) in enumerate(row):
            cells[rooms[room]][asks[ask]] = (name(rooms, goes), name(answers, says))
    return (machine[0], tuple(tuple(row) for row in cells))


def row_named(asks, row):
    return tuple(asks[ask] for ask in row)


def lot_named(rooms, lot):
    return tuple(sorted(rooms[room] for room in lot))


def tree_named(rooms, asks, tree):
    """A tree of a paper with other names; lots have none."""
    if tree[0] == "cut":
        return ("cut", tree[1], rooms[tree[2]], rooms[tree[3]], row_named(asks, tree[4]))
    return ("gap", tree[1], asks[tree[2]], tuple(tree_named(rooms, asks, behind) for behind in tree[3]))


class IsOrderTest(unittest.TestCase):

    def test_all_tuples_of_small_numbers(self):
        for many in range(5):
            for length in range(6):
                for thing in itertools.product(range(-1, many + 1), repeat=length) if length < 5 or many < 3 else []:
                    self.assertIs(is_order(thing, many), sorted(thing) == list(range(many)))

    def test_all_orders(self):
        for many in range(7):
            for thing in itertools.permutations(range(many)):
                self.assertIs(is_order(thing, many), True)
                self.assertIs(is_order(list(thing), many), False)
                self.assertIs(is_order(thing, many + 1), False)
                self.assertIs(is_order(thing + (many,), many), False)
                if many:
                    self.assertIs(is_order(thing, many - 1), False)

    def test_a_count_of_none(self):
        self.assertIs(is_order((), 0), True)
        for thing in ([], "", None, (0,), 0, False, {}, b"", (None,), ((),), set()):
            self.assertIs(is_order(thing, 0), False)

    def test_truths_are_no_numbers(self):
        for thing in ((False, True), (0, True), (False, 1), (True, False), (True, 0)):
            self.assertIs(is_order(thing, 2), False)
        self.assertIs(is_order((False,), 1), False)
        self.assertIs(is_order((0,), 1), True)

    def test_numbers_twice_or_beyond(self):
        for thing in ((0, 0, 1), (1, 1, 1), (0, 1, 3), (0, 2, -1), (1, 2, 3), (0, 1, 2, 2), (0, 1, 10 ** 40)):
            self.assertIs(is_order(thing, 3), False)

    def test_anything(self):
        for thing in ODD_THINGS:
            for many in (0, 1, 2, 3, 8, 24):
                right = type(thing) is tuple and (thing, many) in (((), 0), ((0,), 1))
                self.assertIs(is_order(thing, many), right)
            self.assertIs(is_order((0, thing, 2), 3), type(thing) is int and thing == 1)

    def test_spoilt_in_one_place(self):
        for thing in spoilt((2, 0, 3, 1)):
            right = (type(thing) is tuple and all(type(number) is int for number in thing)
                     and sorted(thing) == [0, 1, 2, 3])
            self.assertIs(is_order(thing, 4), right, thing)

    def test_great_counts(self):
        order = tuple(range(1000, -1, -1))
        self.assertIs(is_order(order, 1001), True)
        self.assertIs(is_order(order[:-1] + (1,), 1001), False)


class RenamedTest(unittest.TestCase):

    def test_rooms_alone(self):
        machine = (1, (((1, 0),), ((2, 1),), ((None, 2),)))
        self.assertEqual(renamed(machine, (0, 2, 1), (0,), SAME_ANSWERS), (1, (((2, 0),), ((None, 2),), ((1, 1),))))

    def test_asks_alone(self):
        machine = (3, (((0, 0), (1, 1), (None, 2)), ((1, 3), (None, None), (0, 5))))
        self.assertEqual(renamed(machine, (0, 1), (1, 2, 0), SAME_ANSWERS),
                         (3, (((None, 2), (0, 0), (1, 1)), ((0, 5), (1, 3), (None, None)))))

    def test_answers_alone(self):
        machine = (1, (((1, 0),), ((None, 7),), ((0, None),)))
        self.assertEqual(renamed(machine, (0, 1, 2), (0,), (3, 1, 2, 0, 4, 5, 7, 6)),
                         (1, (((1, 3),), ((None, 6),), ((0, None),))))

    def test_together(self):
        self.assertEqual(SMALL, (2, (((1, 0), (0, None)), ((2, 1), (None, 3)), ((0, 0), (None, None)))))
        self.assertEqual(renamed(SMALL, (0, 2, 1), (1, 0), (1, 2, 0, 7, 4, 5, 6, 3)),
                         (2, (((0, None), (2, 1)), ((None, None), (0, 1)), ((None, 7), (1, 2)))))

    def test_the_same_names(self):
        for machine in drawn(191, 50, 24, 4, 8):
            self.assertEqual(renamed(machine, same(len(machine[1])), same(machine[0]), SAME_ANSWERS), machine)

    def test_open_stays_open(self):
        machine = (4, (((None, None),) * 4,) * 5)
        self.assertEqual(renamed(machine, (0, 4, 3, 2, 1), (3, 2, 1, 0), (7, 6, 5, 4, 3, 2, 1, 0)), machine)

    def test_drawn_names(self):
        draw = random.Random(192)
        for machine in drawn(193, 200, 24, 4, 8):
            names = draw_names(draw, machine)
            told = renamed(machine, *names)
            self.assertEqual(told, brute_renamed(machine, *names))
            self.assertTrue(is_machine(told))
            self.assertEqual(renamed(told, *(turned(order) for order in names)), machine)
            for room, ask in itertools.product(range(len(machine[1])), range(machine[0])):
                goes, says = machine[1][room][ask]
                self.assertEqual(told[1][names[0][room]][names[1][ask]], (name(names[0], goes), name(names[2], says)))

    def test_all_orders_of_a_small_machine(self):
        for rooms in itertools.permutations((1, 2)):
            for asks in itertools.permutations(range(2)):
                for some in itertools.permutations(range(4)):
                    names = ((0,) + rooms, asks, some + (7, 6, 5, 4))
                    self.assertEqual(renamed(SMALL, *names), brute_renamed(SMALL, *names))


class AllIsExchangedTest(unittest.TestCase):

    def each(self, seed, many, most_rooms, most_asks):
        """Drawn machines with drawn names: the machine, the renamed one, the orders of rooms, asks and answers."""
        draw = random.Random(seed)
        for machine in drawn(seed, many, most_rooms, most_asks, 3):
            names = draw_names(draw, machine)
            yield (draw, machine, renamed(machine, *names)) + names

    def test_runs(self):
        for draw, machine, other, rooms, asks, answers in self.each(194, 60, 10, 4):
            for k in range(5):
                room, row = draw.randrange(len(machine[1])), draw_row(draw, machine[0], 20)
                said, end = run(machine, room, row)
                told = run(other, rooms[room], row_named(asks, row))
                self.assertEqual(told, ([name(answers, says) for says in said], name(rooms, end)))
                self.assertIs(lets(other, rooms[room], row_named(asks, row)), lets(machine, room, row))

    def test_rooms_reached(self):
        for draw, machine, other, rooms, asks, answers in self.each(195, 80, 12, 3):
            told = {rooms[room]: len(row) for room, row in reached(machine)}
            self.assertEqual({room: len(row) for room, row in reached(other)}, told)

    def test_rows_that_part(self):
        for draw, machine, other, rooms, asks, answers in self.each(196, 50, 7, 3):
            pairs = {(min(rooms[one], rooms[two]), max(rooms[one], rooms[two])) for one, two in parted(machine)}
            self.assertEqual(parted(other), sorted(pairs))
            for one, two in itertools.product(range(len(machine[1])), repeat=2):
                row, told = parting(machine, one, two), parting(other, rooms[one], rooms[two])
                self.assertEqual(row is None, told is None)
                if row is not None:
                    self.assertEqual(len(told), len(row))
                    self.assertTrue(brute.parts(other, rooms[one], rooms[two], row_named(asks, row)))
                    self.assertLessEqual(told, row_named(asks, row))
                    self.assertTrue(brute.parts(machine, one, two, row_named(turned(asks), told)))

    def test_lots(self):
        for draw, machine, other, rooms, asks, answers in self.each(197, 60, 8, 3):
            lots = greatest_lots(machine)
            self.assertEqual(greatest_lots(other), sorted(lot_named(rooms, lot) for lot in lots))
            some = tuple(sorted(draw.sample(range(len(machine[1])), draw.randint(1, len(machine[1])))))
            self.assertIs(fits(other, lot_named(rooms, some)), fits(machine, some))
            for ask in range(machine[0]):
                self.assertEqual(followers(other, lot_named(rooms, some), asks[ask]),
                                 lot_named(rooms, followers(machine, some, ask)))
            lots = sorted(lots, key=lambda lot: 0 not in lot)
            if lots_fault(machine, lots) is None:
                named = [lot_named(rooms, lot) for lot in lots]
                self.assertIsNone(lots_fault(other, named))
                # Lots keep their order, so only asks and answers are exchanged in what they make.
                self.assertEqual(made(other, named), renamed(made(machine, lots), same(len(lots)), asks, answers))

    def test_where_a_machine_stands(self):
        ends = {"yes": 0, "no": 0}
        for draw, machine, other, rooms, asks, answers in self.each(198, 300, 6, 3):
            beside = drawn_likeness(draw, machine)
            names = draw_names(draw, beside)[0]
            verdict, shown = stands(machine, beside)
            told, other_shown = stands(other, renamed(beside, names, asks, answers))
            self.assertEqual(told, verdict)
            ends[verdict] += 1
            if verdict == "yes":
                pairs = sorted((rooms[one], names[two]) for one, two in shown)
                self.assertEqual(other_shown, pairs)
                self.assertIsNone(pairs_fault(other, renamed(beside, names, asks, answers), pairs))
            else:
                self.assertEqual(len(other_shown), len(shown))
                self.assertTrue(brute.fails_at(machine, beside, row_named(turned(asks), other_shown)))
        self.assertTrue(min(ends.values()) > 50, ends)

    def test_least_rooms(self):
        papers = 0
        for draw, machine, other, rooms, asks, answers in self.each(199, 100, 6, 2):
            try:
                small, lots, paper = least(machine)
                told = least(other)
            except TooMany:
                continue
            self.assertEqual(len(told[1]), len(lots))
            self.assertEqual(stands(other, renamed(small, same(len(lots)), asks, answers))[0], "yes")
            if paper is not None:
                named = ("tries", tree_named(rooms, asks, paper[1]))
                self.assertIs(needs(other, len(lots), named), True)
                papers += 1
        self.assertGreater(papers, 30)

    def test_papers(self):
        for draw, machine, other, rooms, asks, answers in self.each(200, 60, 6, 2):
            for many in (2, 3):
                try:
                    paper, told = paper_for(machine, many), paper_for(other, many)
                except TooMany:
                    continue
                self.assertEqual(paper is None, told is None)
                if paper is not None:
                    self.assertIs(needs(other, many, ("tries", tree_named(rooms, asks, paper[1]))), True)
                    self.assertIs(needs(machine, many, ("tries", tree_named(turned(rooms), turned(asks), told[1]))), True)

    def test_where_nothing_is_open(self):
        draw = random.Random(201)
        for k in range(60):
            machine = draw_machine(draw, draw.randint(1, 8), draw.randint(1, 3), 0, 0)
            rooms, asks, answers = draw_names(draw, machine)
            other = renamed(machine, rooms, asks, answers)
            self.assertTrue(is_full(other))
            self.assertEqual(blocks(other), sorted(lot_named(rooms, block) for block in blocks(machine)))
            small = renamed(shrunk(machine), same(len(shrunk(machine)[1])), asks, answers)
            self.assertIsNotNone(naming(small, shrunk(other)))

    def test_namings(self):
        named = 0
        for draw, machine, other, rooms, asks, answers in self.each(202, 200, 5, 3):
            if len(reached(machine)) == len(machine[1]):
                again = renamed(machine, rooms, same(machine[0]), SAME_ANSWERS)
                self.assertEqual(naming(machine, again), rooms)
                self.assertEqual(naming(again, machine), turned(rooms))
                named += len(rooms) > 2
        self.assertGreater(named, 20)

    def test_told_rows(self):
        for draw, machine, other, rooms, asks, answers in self.each(203, 80, 5, 3):
            sheet = draw_sheet_of(draw, draw_machine(draw, 2, machine[0], 0, 0), 4, 6)
            named = [(row_named(asks, row), tuple(name(answers, says) for says in told)) for row, told in sheet]
            self.assertEqual(disagrees(other, named), disagrees(machine, sheet))

    def test_fills(self):
        for draw, machine, other, rooms, asks, answers in self.each(204, 80, 6, 3):
            room, ask = draw.randrange(len(machine[1])), draw.randrange(machine[0])
            goes, says = machine[1][room][ask]
            cell = (draw.randrange(len(rooms)) if goes is None else goes, draw.randrange(8) if says is None else None)
            told = filled(other, rooms[room], asks[ask], (rooms[cell[0]], name(answers, cell[1])))
            self.assertEqual(told, renamed(filled(machine, room, ask, cell), rooms, asks, answers))

    def test_rings(self):
        self.assertEqual(naming(ring([0, 1, 2]), renamed(ring([0, 1, 2]), (0, 2, 1), (0,), SAME_ANSWERS)), (0, 2, 1))
        self.assertEqual(renamed(FULL, (0, 2, 1), (0, 1), SAME_ANSWERS)[1][2], ((0, 0), (2, 1)))
