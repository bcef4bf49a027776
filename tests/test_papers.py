"""[16] papers that a machine needs so many rooms."""

import itertools
import random
import unittest
from unittest.mock import ANY

from opencells.errors import TooMany
from opencells.least import paper_for
from opencells.papers import needs
from opencells.partings import parting
from opencells.runs import reached
from opencells.tries import tries_for
from tests import brute
from tests.samples import ODD_THINGS, countdown, draw_row, drawn, nested, ring
from tests.spoil import spoilt

# Three rooms of which each two part: 0 and 1 by (0, 1), 0 and 2 by (0, 0, 1), 1 and 2 by (1,).
THREE = (2, (((1, 0), (2, None)), ((2, 0), (0, 1)), ((0, 0), (None, 2))))

# Rooms 1 and 2 can be one, but room 0 with neither: two rooms are needed.
TWO = (1, (((1, 0),), ((2, 1),), ((0, None),)))


def parted_paper(machine, rooms):
    """The paper of these rooms, with the rows by which they are reached, and the shortest ones that part them."""
    rows = dict(reached(machine))
    twos = itertools.combinations(rooms, 2)
    return ("parted", tuple((room, rows[room]) for room in rooms), tuple(parting(machine, *two) for two in twos))


def rows_that_part(machine, one, other, most):
    """All rows of at most so many asks that part two rooms."""
    return [row for row in brute.rows_to(machine[0], most) if brute.parts(machine, one, other, row)]


def draw_tree(draw, machine, m, lots, ways):
    """A drawn tree for a try for m rooms of which none comes out: any cuts, any gaps, also where it is cut."""
    lots = brute.settle(machine, lots, ways)
    cuts = [(i, one, other) for i, lot in enumerate(lots) for one, other in itertools.permutations(sorted(lot), 2)
            if parting(machine, one, other) is not None]
    gaps = brute.all_gaps(machine, lots, ways)
    if cuts and (not gaps or draw.random() < 0.8):
        i, one, other = draw.choice(cuts)
        rows = rows_that_part(machine, one, other, 5) + [parting(machine, one, other)]
        return ("cut", i, one, other, draw.choice(rows))
    gap = draw.choice(gaps)
    trees = [draw_tree(draw, machine, m, *behind) for behind in brute.led_to(lots, ways, gap, m)]
    return ("gap", *gap, tuple(trees))


class Spoilt(unittest.TestCase):

    def check_spoilt(self, machine, many, paper):
        """Each spoilt paper is told of as it should be; some may still be papers, with other rows."""
        self.assertIs(needs(machine, many, paper), True)
        wrong = 0
        for thing in spoilt(paper):
            right = brute.is_paper(machine, many, thing)
            self.assertIs(needs(machine, many, thing), right, thing)
            wrong += not right
        self.assertGreater(wrong, 300)


class PartedTest(Spoilt):

    def test_as_they_should_be(self):
        for rooms in itertools.permutations(range(3)):
            self.assertIs(needs(THREE, 3, parted_paper(THREE, rooms)), True)
        for rooms in itertools.permutations(range(3), 2):
            self.assertIs(needs(THREE, 2, parted_paper(THREE, rooms)), True)

    def test_written_out(self):
        rooms = ((0, ()), (2, (1,)), (1, (0,)))
        self.assertIs(needs(THREE, 3, ("parted", rooms, ((0, 0, 1), (0, 1), (1,)))), True)
        self.assertIs(needs(THREE, 3, ("parted", rooms, ((0, 1), (0, 0, 1), (1,)))), False)

    def test_other_counts(self):
        machine = countdown(24)
        for many in range(2, 25):
            paper = parted_paper(machine, range(many))
            for asked in range(2, 25):
                self.assertIs(needs(machine, asked, paper), asked == many)

    def test_all_rooms_of_many_orders(self):
        machine = countdown(24)
        draw = random.Random(41)
        for many in range(2, 25):
            rooms = draw.sample(range(24), many)
            self.assertIs(needs(machine, many, parted_paper(machine, rooms)), True)

    def test_long_rows(self):
        machine = ring([0, 1, 2])
        for rounds in (20, 21, 200, 1500):
            far = (0,) * (3 * rounds)
            paper = ("parted", ((0, far), (1, far + (0,)), (2, (0, 0) + far)), (far, far + (0,), (0, 0) + far))
            self.assertIs(needs(machine, 3, paper), True)
            self.assertIs(needs(machine, 3, ("parted", ((0, far), (1, far), (2, (0, 0))), paper[2])), False)

    def test_long_rows_that_fail_at_their_end(self):
        # By ask 1 each room says nothing, so a row that ends by it parts none.
        machine = (2, (((1, 0), (0, None)), ((0, 1), (1, None))))
        far = (1,) * 80
        rooms = ((0, far), (1, (0,) + far))
        self.assertIs(needs(machine, 2, ("parted", rooms, (far + (0,),))), True)
        self.assertIs(needs(machine, 2, ("parted", rooms, ((0,) + far,))), False)
        self.assertIs(needs(machine, 2, ("parted", rooms, (far,))), False)

    def test_rows_that_are_not_the_shortest(self):
        paper = parted_paper(THREE, (0, 1, 2))
        for at, (one, other) in enumerate(itertools.combinations(range(3), 2)):
            rows = rows_that_part(THREE, one, other, 6)
            self.assertGreater(len(rows), 2)
            for row in rows:
                longer = paper[2][:at] + (row,) + paper[2][at + 1:]
                self.assertIs(needs(THREE, 3, ("parted", paper[1], longer)), True)

    def test_every_row_to_a_room_and_no_other(self):
        paper = parted_paper(THREE, (0, 1, 2))
        for at in range(3):
            for row in [()] + list(brute.rows_to(2, 5)):
                rooms = paper[1][:at] + ((at, row),) + paper[1][at + 1:]
                goes_there = brute.go(THREE, 0, row)[1] == at
                self.assertIs(needs(THREE, 3, ("parted", rooms, paper[2])), goes_there)

    def test_rows_that_are_not_let(self):
        # Ask 1 of room 2 leads nowhere: behind it nothing is asked.
        rooms = ((0, ()), (1, (0,)), (2, (1,)))
        rows = ((0, 1), (0, 0, 1), (1,))
        self.assertIs(needs(THREE, 3, ("parted", rooms, rows)), True)
        for row in ((1, 1), (1, 0), (1, 1, 1), (0, 1, 1)):
            self.assertIs(needs(THREE, 3, ("parted", rooms, (rows[0], row, rows[2]))), False)
        for row in ((1, 1), (1, 1, 0), (1, 1, 0, 1)):
            self.assertIs(needs(THREE, 3, ("parted", rooms[:2] + ((2, row),), rows)), False)

    def test_a_room_twice(self):
        rooms = ((0, ()), (1, (0,)), (0, (0, 1)))
        for row in [()] + list(brute.rows_to(2, 4)):
            self.assertIs(needs(THREE, 3, ("parted", rooms, (parting(THREE, 0, 1), row, parting(THREE, 1, 0)))), False)

    def test_rooms_not_reached(self):
        machine = (1, (((0, 0),), ((1, 1),)))
        for row in [()] + list(brute.rows_to(1, 4)):
            self.assertIs(needs(machine, 2, ("parted", ((0, ()), (1, row)), ((0,),))), False)

    def test_spoilt_in_one_place(self):
        for machine, rooms in ((THREE, (0, 2, 1)), (ring([0, 1, 2, 3]), (3, 1, 0, 2)), (countdown(5), (4, 2, 0, 1))):
            self.check_spoilt(machine, len(rooms), parted_paper(machine, rooms))


class TreesTest(Spoilt):

    def test_written_out(self):
        # One room: the lot (0,) gets room 1 by its own way, then all.
        cut = ("cut", 0, 0, 1, (0,))
        self.assertIs(needs(TWO, 2, ("tries", ("gap", 0, 0, (cut,)))), True)
        self.assertIs(needs(TWO, 2, ("tries", ("gap", 0, 0, (("cut", 0, 1, 0, (0,)),)))), True)
        for row in ((), (0, 0), (0, 0, 0), (0, 0, 0, 0)):
            cut = ("cut", 0, 0, 1, row)
            self.assertIs(needs(TWO, 2, ("tries", ("gap", 0, 0, (cut,)))), row == (0, 0, 0, 0), row)

    def test_cut_where_nothing_is_cut(self):
        for i in range(3):
            for one, other in itertools.product(range(3), repeat=2):
                self.assertIs(needs(TWO, 2, ("tries", ("cut", i, one, other, (0,)))), False)
                self.assertIs(needs(THREE, 3, ("tries", ("cut", i, one, other, (0,)))), False)

    def test_any_lot_and_gaps_that_are_not_the_first(self):
        # Two asks: ask 1 of room 0 first, to room 2; then ask 0, to room 1, that parts from both.
        cut_02, cut_01, cut_12 = ("cut", 0, 2, 0, (0, 0, 1)), ("cut", 0, 0, 1, (0, 1)), ("cut", 1, 1, 2, (1,))
        paper = ("tries", ("gap", 0, 1, (cut_02, ("gap", 0, 0, (cut_01, cut_12)))))
        self.assertIs(needs(THREE, 3, paper), True)
        self.assertIs(needs(THREE, 3, ("tries", ("gap", 0, 1, (("gap", 0, 0, (cut_01, cut_12)), cut_02)))), False)
        self.assertIs(needs(THREE, 3, ("tries", ("gap", 0, 0, paper[1][3]))), False)

    def test_gap_where_the_try_is_cut_already(self):
        machine = (2, tuple(room + ((None, None),) for room in TWO[1][:2]) + (((0, None), (0, 1)),))
        cut = ("cut", 0, 0, 1, (0,))
        self.assertIs(needs(machine, 2, ("tries", ("gap", 0, 0, (cut,)))), True)
        self.assertIs(needs(machine, 2, ("tries", ("gap", 0, 0, (("gap", 0, 1, (cut,)),)))), True)
        # Without followers, or with a way, there is no gap.
        self.assertIs(needs(machine, 2, ("tries", ("gap", 0, 1, (("gap", 0, 0, (cut,)),)))), False)
        self.assertIs(needs(machine, 2, ("tries", ("gap", 0, 0, (("gap", 0, 0, (cut,)),)))), False)
        twice = ("gap", 0, 0, (("gap", 0, 1, (("gap", 0, 1, (cut,)),)),))
        self.assertIs(needs(machine, 2, ("tries", twice)), False)

    def test_trees_by_t(self):
        paper = paper_for(countdown(5), 4)
        self.assertIs(needs(countdown(5), 4, paper), True)
        for trees in itertools.permutations(paper[1][3]):
            self.assertIs(needs(countdown(5), 4, ("tries", paper[1][:3] + (trees,))), trees == paper[1][3])

    def test_long_rows(self):
        for rounds in (20, 500, 1500):
            cut = ("cut", 0, 1, 0, (0,) * (3 * rounds + 1))
            self.assertIs(needs(TWO, 2, ("tries", ("gap", 0, 0, (cut,)))), True)
            cut = ("cut", 0, 1, 0, (0,) * (3 * rounds))
            self.assertIs(needs(TWO, 2, ("tries", ("gap", 0, 0, (cut,)))), False)

    def test_other_counts(self):
        machine = countdown(24)
        for many in range(2, 25):
            paper = paper_for(machine, many)
            for asked in range(2, 25):
                self.assertIs(needs(machine, asked, paper), asked == many)

    def test_spoilt_in_one_place(self):
        for machine, many in ((THREE, 3), (ring([0, 1, 2]), 3), (countdown(3), 3), (countdown(4), 3)):
            self.check_spoilt(machine, many, paper_for(machine, many))

    def test_drawn_trees(self):
        draw = random.Random(42)
        looked = 0
        for machine in drawn(42, 250, 5, 2, 3):
            for m in (1, 2):
                try:
                    if tries_for(machine, m, 60)[1] is not None:
                        continue
                except TooMany:
                    continue
                paper = ("tries", draw_tree(draw, machine, m, [{0}], {}))
                self.assertTrue(brute.is_paper(machine, m + 1, paper))
                self.assertIs(needs(machine, m + 1, paper), True)
                looked += 1
                some = list(itertools.islice(spoilt(paper), 4000))
                for thing in draw.sample(some, min(len(some), 40)):
                    self.assertIs(needs(machine, m + 1, thing), brute.is_paper(machine, m + 1, thing))
        self.assertGreater(looked, 60)


class AnythingTest(unittest.TestCase):

    def test_odd_things(self):
        odd = ODD_THINGS + [("parted",), ("tries",), ("parted", (), ()), ("tries", ()), ("tries", None), ("tries", "cut")]
        for thing in odd:
            for many in (2, 3, 24):
                self.assertIs(needs(THREE, many, thing), False)
                for paper in (("parted", thing, thing), ("parted", ((0, ()), (1, (0,))), thing), ("tries", thing),
                              ("parted", thing, ((0, 1),)), ("tries", ("gap", thing, 0, ())), (thing, thing),
                              ("tries", ("gap", 0, thing, ())), ("tries", ("gap", 0, 0, thing)),
                              ("tries", ("gap", 0, 0, (thing,))), ("tries", ("cut", 0, 0, 0, thing))):
                    self.assertIs(needs(THREE, many, paper), False)

    def test_a_thing_equal_to_all_is_no_word(self):
        cut, gap = ("cut", 0, 0, 1, (0,)), ("gap", 0, 0, (("cut", 0, 0, 1, (0,)),))
        self.assertIs(needs(TWO, 2, ("tries", gap)), True)
        for thing in ((ANY, gap), ("tries", (ANY,) + gap[1:]), ("tries", gap[:3] + ((ANY,) + cut[1:],)),
                      ("parted", ((ANY, ()), (1, (0,))), ((0,),)), (ANY, ((0, ()), (1, (0,))), ((0,),))):
            self.assertIs(needs(TWO, 2, thing), False)

    def test_nested_far(self):
        for deep in (20, 50, 117):
            for outer in (lambda inner: ("gap", 0, 0, (inner,)), lambda inner: (inner,), lambda inner: [inner],
                          lambda inner: ("tries", inner), lambda inner: ("gap", 0, 0, inner)):
                thing = nested(deep // 2, outer)
                self.assertIs(needs(THREE, 2, thing), False)
                self.assertIs(needs(THREE, 2, ("tries", thing)), False)
                self.assertIs(needs(countdown(24), 24, ("tries", thing)), False)

    def test_many_parts(self):
        wide = (("cut", 0, 0, 1, (0,)),) * 8000
        self.assertIs(needs(countdown(24), 24, ("tries", ("gap", 0, 0, wide))), False)
        self.assertIs(needs(countdown(24), 24, ("parted", ((0, ()),) * 24, ((0,),) * 20000)), False)
        self.assertIs(needs(ring([0, 1]), 2, ("parted", ((0, ()), (1, (0,))), ((0,) * 50000,))), True)

    def test_deep_trees(self):
        # Twenty-three lots, one after the other: as deep as trees go with so few tries.
        paper = paper_for(countdown(24), 24)
        self.assertIs(needs(countdown(24), 24, paper), True)
        self.assertIs(needs(countdown(23), 24, paper), False)

    def test_all_cells_open(self):
        machine = (4, (((None, None),) * 4,) * 24)
        for thing in (parted_paper(countdown(24), range(24)), paper_for(countdown(24), 24), ("tries", ("gap", 0, 0, ()))):
            self.assertIs(needs(machine, 24, thing), False)


class ShownTest(unittest.TestCase):

    def test_no_machine_of_fewer_rooms_stands_where_a_paper_is_let_by(self):
        draw = random.Random(43)
        machines = drawn(43, 120, 5, 1) + drawn(44, 40, 4, 2)
        fewer = {(asks, rooms): list(brute.all_machines(asks, rooms, 2)) for asks, rooms in ((1, 1), (2, 1), (1, 2))}
        looked = 0
        for machine in machines:
            for m in (1, 2):
                others = fewer.get((machine[0], m))
                if others is None or tries_for(machine, m, 300)[1] is not None:
                    continue
                self.assertTrue(needs(machine, m + 1, ("tries", draw_tree(draw, machine, m, [{0}], {}))))
                for other in others:
                    self.assertIsNotNone(brute.first_failing(machine, other))
                looked += 1
        self.assertGreater(looked, 15)

    def test_no_paper_where_a_machine_of_fewer_rooms_stands(self):
        draw = random.Random(45)
        for machine in drawn(45, 100, 5, 2):
            others = drawn(46, 3, 5, 2) + [countdown(5), THREE, TWO]
            for other in others:
                if other[0] != machine[0]:
                    continue
                for m in (1, 2, 3):
                    if tries_for(machine, m, 300)[1] is None:
                        continue
                    # Whatever is a paper for another machine is none here.
                    paper = paper_for(other, m + 1)
                    rooms = draw.sample(range(len(other[1])), min(m + 1, len(other[1])))
                    self.assertIs(needs(machine, m + 1, paper), False)
                    row = draw_row(draw, machine[0], 3)
                    likely = ("parted", tuple((room, row) for room in rooms), (row,) * (m * (m + 1) // 2))
                    self.assertIs(needs(machine, m + 1, likely), False)
