"""[32], [33] cells filled later, and grown machines."""

import itertools
import random
import unittest

from opencells.errors import NoBack, NotOpen, Unlike
from opencells.growth import Grown, filled
from opencells.least import least
from opencells.machines import is_machine
from opencells.standing import stands
from tests import brute
from tests.samples import FULL, SMALL, countdown, draw_machine, drawn, drawn_likeness, ring

# Two rooms, one ask; each cell has something open.
HALF = (1, (((1, None),), ((None, 1),)))


def brute_filled(machine, room, ask, cell):
    """The machine with a cell filled, by lists; None where something else is there already."""
    cells = [[list(known) for known in row] for row in machine[1]]
    known = cells[room][ask]
    for place in (0, 1):
        if cell[place] is not None:
            if known[place] is not None and known[place] != cell[place]:
                return None
            known[place] = cell[place]
    return (machine[0], tuple(tuple(tuple(cell) for cell in row) for row in cells))


def draw_fill(draw, machine, answers=2):
    """A drawn fill: a room, an ask, and a cell, which often tells nothing of a part."""
    many = len(machine[1])
    cell = (draw.choice((None, draw.randrange(many))), draw.choice((None, draw.randrange(answers))))
    return draw.randrange(many), draw.randrange(machine[0]), cell


class FilledTest(unittest.TestCase):

    def test_what_is_told_is_taken_where_it_is_open(self):
        self.assertEqual(filled(HALF, 0, 0, (None, 5)), (1, (((1, 5),), ((None, 1),))))
        self.assertEqual(filled(HALF, 1, 0, (0, None)), (1, (((1, None),), ((0, 1),))))
        self.assertEqual(filled((1, (((None, None),),)), 0, 0, (0, 7)), (1, (((0, 7),),)))
        self.assertEqual(filled((1, (((None, None),),)), 0, 0, (0, None)), (1, (((0, None),),)))
        self.assertEqual(filled((1, (((None, None),),)), 0, 0, (None, 0)), (1, (((None, 0),),)))

    def test_the_same_may_be_told_again(self):
        self.assertEqual(filled(HALF, 0, 0, (1, None)), HALF)
        self.assertEqual(filled(HALF, 1, 0, (None, 1)), HALF)
        self.assertEqual(filled(HALF, 0, 0, (1, 0)), (1, (((1, 0),), ((None, 1),))))
        self.assertEqual(filled(HALF, 1, 0, (0, 1)), (1, (((1, None),), ((0, 1),))))

    def test_not_open(self):
        for fill in ((0, 0, (0, None)), (0, 0, (0, 5)), (1, 0, (None, 0)), (1, 0, (None, 7)), (1, 0, (0, 0)),
                     (1, 0, (1, 2))):
            self.assertRaises(NotOpen, filled, HALF, *fill)

    def test_noughts_are_told(self):
        machine = (1, (((0, 0),), ((1, 1),)))
        self.assertEqual(filled(machine, 0, 0, (0, 0)), machine)
        self.assertEqual(filled(machine, 0, 0, (None, None)), machine)
        for cell in ((1, None), (None, 1), (1, 0), (0, 1)):
            self.assertRaises(NotOpen, filled, machine, 0, 0, cell)
        for cell in ((0, None), (None, 0), (0, 1), (1, 0)):
            self.assertRaises(NotOpen, filled, machine, 1, 0, cell)

    def test_nothing_told_fills_nothing(self):
        for machine in (SMALL, FULL, HALF):
            for room, ask in itertools.product(range(len(machine[1])), range(machine[0])):
                self.assertEqual(filled(machine, room, ask, (None, None)), machine)

    def test_only_the_one_cell(self):
        machine = (3, (((None, None),) * 3,) * 4)
        for room, ask in itertools.product(range(4), range(3)):
            told = filled(machine, room, ask, (2, 6))
            for other, (row, before) in enumerate(zip(told[1], machine[1])):
                for place, cell in enumerate(row):
                    self.assertEqual(cell, (2, 6) if (other, place) == (room, ask) else (None, None))

    def test_drawn_fills(self):
        draw = random.Random(181)
        ends = {"told": 0, "same": 0, "refused": 0}
        for machine in drawn(182, 600, 24, 4, 3):
            fill = draw_fill(draw, machine, 3)
            expected = brute_filled(machine, *fill)
            if expected is None:
                self.assertRaises(NotOpen, filled, machine, *fill)
                ends["refused"] += 1
                continue
            told = filled(machine, *fill)
            self.assertEqual(told, expected)
            self.assertTrue(is_machine(told))
            ends["same" if told == machine else "told"] += 1
        self.assertTrue(all(many > 50 for many in ends.values()), ends)


class GrownTest(unittest.TestCase):

    def test_unlike(self):
        for machine, other in ((HALF, SMALL), (SMALL, HALF), (ring([0]), (4, (((None, None),) * 4,)))):
            self.assertRaises(Unlike, Grown, machine, other)

    def test_new(self):
        grown = Grown(HALF, ring([0]))
        self.assertEqual(grown.machine(), HALF)
        self.assertEqual(grown.fills(), [])
        self.assertRaises(NoBack, grown.back)

    def test_written_out(self):
        # The other one says 0 and 1, round.
        grown = Grown(HALF, ring([0, 1]))
        self.assertIsNone(grown.fill(0, 0, (None, 0)))
        self.assertEqual(grown.machine(), (1, (((1, 0),), ((None, 1),))))
        self.assertIsNone(grown.fill(1, 0, (0, None)))
        self.assertEqual(grown.machine(), ring([0, 1]))
        self.assertEqual(grown.fills(), [(0, 0, (None, 0)), (1, 0, (0, None))])
        self.assertIsNone(grown.back())
        self.assertEqual(grown.machine(), (1, (((1, 0),), ((None, 1),))))
        # Leading to itself, room 1 says 1 again, where the other one says 0.
        self.assertEqual(grown.fill(1, 0, (1, 1)), (0, 0, 0))
        self.assertEqual(grown.fills(), [(0, 0, (None, 0)), (1, 0, (1, 1))])
        self.assertIsNone(grown.back())
        self.assertIsNone(grown.back())
        self.assertEqual(grown.machine(), HALF)
        self.assertEqual(grown.fills(), [])
        self.assertRaises(NoBack, grown.back)

    def test_a_fill_stays_where_a_row_is_told(self):
        grown = Grown(HALF, ring([0, 1]))
        self.assertEqual(grown.fill(0, 0, (None, 3)), (0,))
        self.assertEqual(grown.machine(), (1, (((1, 3),), ((None, 1),))))
        self.assertEqual(grown.fills(), [(0, 0, (None, 3))])
        # And the next one is told of the machine as it is then.
        self.assertEqual(grown.fill(1, 0, (0, None)), (0,))
        self.assertEqual(grown.back(), (0,))
        self.assertIsNone(grown.back())

    def test_a_fill_stays_where_it_fills_nothing(self):
        grown = Grown(HALF, ring([0, 1]))
        self.assertIsNone(grown.fill(0, 0, (None, None)))
        self.assertIsNone(grown.fill(0, 0, (1, None)))
        self.assertIsNone(grown.fill(0, 0, (1, None)))
        self.assertEqual(grown.machine(), HALF)
        self.assertEqual(grown.fills(), [(0, 0, (None, None)), (0, 0, (1, None)), (0, 0, (1, None))])
        for left in (2, 1, 0):
            self.assertIsNone(grown.back())
            self.assertEqual(grown.machine(), HALF)
            self.assertEqual(len(grown.fills()), left)
        self.assertRaises(NoBack, grown.back)

    def test_one_that_never_stood(self):
        grown = Grown(ring([0, 1]), ring([1, 0]))
        self.assertEqual(grown.fill(0, 0, (None, None)), (0,))
        self.assertEqual(grown.back(), (0,))
        self.assertRaises(NoBack, grown.back)

    def test_not_open_changes_nothing(self):
        grown = Grown(HALF, ring([0, 1]))
        for before in (None, (0, 0, (None, 0)), (1, 0, (0, None))):
            if before is not None:
                grown.fill(*before)
            machine, fills = grown.machine(), grown.fills()
            for fill in ((0, 0, (0, None)), (0, 0, (0, 0)), (1, 0, (None, 0)), (1, 0, (0, 0))):
                self.assertRaises(NotOpen, grown.fill, *fill)
                self.assertEqual(grown.machine(), machine)
                self.assertEqual(grown.fills(), fills)
        grown.back()
        self.assertEqual(grown.machine(), (1, (((1, 0),), ((None, 1),))))

    def test_no_back_changes_nothing(self):
        grown = Grown(HALF, ring([0, 1]))
        self.assertRaises(NoBack, grown.back)
        self.assertIsNone(grown.fill(0, 0, (1, 0)))
        self.assertEqual(grown.fills(), [(0, 0, (1, 0))])
        grown.back()
        for k in range(3):
            self.assertRaises(NoBack, grown.back)
            self.assertEqual(grown.machine(), HALF)
            self.assertEqual(grown.fills(), [])

    def test_two_keep_nothing_of_each_other(self):
        one, two = Grown(HALF, ring([0, 1])), Grown(HALF, ring([0, 1]))
        one.fill(0, 0, (1, 5))
        self.assertEqual(two.machine(), HALF)
        self.assertEqual(two.fills(), [])
        self.assertRaises(NoBack, two.back)
        self.assertEqual(one.fills(), [(0, 0, (1, 5))])

    def test_long_rows(self):
        # The last of 24 rooms says 1 in the end; the other one leads round through 23 and says 0 throughout.
        grown = Grown((1, countdown(24)[1][:23] + (((None, None),),)), ring([0] * 23))
        self.assertIsNone(grown.fill(23, 0, (0, None)))
        self.assertEqual(grown.fill(23, 0, (None, 1)), (0,) * 24)

    def check_told(self, grown, told, machine, other):
        """Told is None where the other one stands, else the first row at which it fails."""
        verdict, row = stands(machine, other)
        self.assertEqual(told, None if verdict == "yes" else row)
        if verdict == "no":
            self.assertTrue(brute.fails_at(machine, other, told))
        self.assertEqual(grown.machine(), machine)

    def test_drawn_fills_and_backs(self):
        draw = random.Random(183)
        ends = {"refused": 0, "stood": 0, "failed": 0, "back": 0, "none": 0}
        for k in range(80):
            machine = draw_machine(draw, draw.randint(1, 5), draw.randint(1, 3), 0.6, 0.7)
            other = drawn_likeness(draw, machine)
            grown = Grown(machine, other)
            states, fills = [machine], []
            for step in range(draw.randint(5, 25)):
                if draw.random() < 0.3:
                    if not fills:
                        self.assertRaises(NoBack, grown.back)
                        ends["none"] += 1
                    else:
                        states.pop()
                        fills.pop()
                        self.check_told(grown, grown.back(), states[-1], other)
                        ends["back"] += 1
                else:
                    fill = draw_fill(draw, machine)
                    after = brute_filled(states[-1], *fill)
                    if after is None:
                        self.assertRaises(NotOpen, grown.fill, *fill)
                        ends["refused"] += 1
                    else:
                        states.append(after)
                        fills.append(fill)
                        told = grown.fill(*fill)
                        self.check_told(grown, told, after, other)
                        ends["stood" if told is None else "failed"] += 1
                self.assertEqual(grown.machine(), states[-1])
                self.assertEqual(grown.fills(), fills)
        self.assertTrue(all(many > 20 for many in ends.values()), ends)

    def test_the_least_machine_stands_till_a_row_is_told(self):
        draw = random.Random(184)
        stood = failed = 0
        for machine in drawn(185, 120, 3, 2):
            other = least(machine)[0]
            grown = Grown(machine, other)
            for k in range(12):
                try:
                    row = grown.fill(*draw_fill(draw, machine))
                except NotOpen:
                    continue
                if row is None:
                    self.assertIsNone(brute.first_failing(grown.machine(), other))
                    stood += 1
                else:
                    self.assertEqual(row, brute.first_failing(grown.machine(), other))
                    failed += 1
                    grown.back()
        self.assertTrue(stood > 50 and failed > 20, (stood, failed))
