"""[18], [19] machines in which nothing is open: their blocks, and shrunk."""

import itertools
import random
import unittest

from opencells.errors import NotFull, TooMany
from opencells.fulls import blocks, is_full, shrunk
from opencells.least import least
from opencells.lots import fits
from opencells.machines import is_machine
from opencells.namings import naming
from opencells.runs import reached
from opencells.standing import stands
from tests import brute
from tests.samples import FULL, SMALL, countdown, draw_machine, drawn, ring


def full(draw, rooms, asks, answers=2):
    return draw_machine(draw, rooms, asks, 0, 0, answers)


def blown_up(draw, machine, rooms):
    """A full machine with more rooms, each the like of one of this one's, and which one that is of each."""
    many = len(machine[1])
    like = list(range(many)) + [draw.randrange(many) for room in range(rooms - many)]
    mixed = [0] + draw.sample(like[1:], rooms - 1)
    cells = [tuple((draw.choice([room for room in range(rooms) if mixed[room] == goes]), says)
                   for goes, says in machine[1][one]) for one in mixed]
    return (machine[0], tuple(cells)), mixed


def with_cell(machine, room, ask, cell):
    """The machine with another cell."""
    rooms = [list(cells) for cells in machine[1]]
    rooms[room][ask] = cell
    return (machine[0], tuple(tuple(cells) for cells in rooms))


class FullTest(unittest.TestCase):

    def test_full_ones(self):
        draw = random.Random(61)
        for machine in [FULL, ring([0]), ring([7, 0])] + [full(draw, rooms, rooms % 4 + 1) for rooms in range(1, 25)]:
            self.assertIs(is_full(machine), True)

    def test_one_thing_open(self):
        draw = random.Random(62)
        for machine in (FULL, ring([0]), full(draw, 24, 4), full(draw, 5, 3)):
            for room, ask in itertools.product(range(len(machine[1])), range(machine[0])):
                goes, says = machine[1][room][ask]
                for cell in ((None, says), (goes, None), (None, None)):
                    spoilt = with_cell(machine, room, ask, cell)
                    self.assertIs(is_full(spoilt), False)
                    self.assertRaises(NotFull, blocks, spoilt)
                    self.assertRaises(NotFull, shrunk, spoilt)

    def test_room_and_answer_nought_are_not_open(self):
        self.assertIs(is_full((1, (((0, 0),),))), True)

    def test_all_open(self):
        machine = (4, (((None, None),) * 4,) * 24)
        self.assertIs(is_full(machine), False)
        self.assertRaises(NotFull, blocks, machine)
        self.assertRaises(NotFull, shrunk, SMALL)


class BlocksTest(unittest.TestCase):

    def test_written_out(self):
        self.assertEqual(blocks(FULL), [(0,), (1,), (2,)])
        self.assertEqual(blocks(ring([1, 2, 1, 2])), [(0, 2), (1, 3)])
        self.assertEqual(blocks(ring([1, 2, 1, 3])), [(0,), (1,), (2,), (3,)])
        self.assertEqual(blocks(ring([4] * 24)), [tuple(range(24))])
        self.assertEqual(blocks(ring([2, 1, 1, 2, 1, 1])), [(0, 3), (1, 4), (2, 5)])

    def test_by_rows(self):
        draw = random.Random(63)
        for k in range(60):
            machine = full(draw, draw.randint(1, 5), draw.randint(1, 2))
            told = blocks(machine)
            self.assertEqual(sorted(room for block in told for room in block), list(range(len(machine[1]))))
            for one, other in itertools.combinations(range(len(machine[1])), 2):
                together = any(one in block and other in block for block in told)
                self.assertEqual(together, brute.first_parting(machine, one, other) is None)

    def test_many_rooms_alike(self):
        draw = random.Random(64)
        for k in range(60):
            small = full(draw, draw.randint(1, 6), draw.randint(1, 4), 8)
            machine, mixed = blown_up(draw, small, 24)
            told = blocks(machine)
            self.assertEqual(told, sorted(told))
            for block in told:
                self.assertIs(type(block), tuple)
                self.assertEqual(block, tuple(sorted(set(block))))
            parted = brute.part_by_sweeps(machine)
            home = {room: block for block in told for room in block}
            self.assertEqual(sum(len(block) for block in told), 24)
            for one, other in itertools.combinations(range(24), 2):
                self.assertEqual(home[one] == home[other], (one, other) not in parted)
                if mixed[one] == mixed[other]:
                    self.assertEqual(home[one], home[other])

    def test_each_block_is_a_lot_and_with_one_more_room_it_is_none(self):
        draw = random.Random(65)
        machine = blown_up(draw, full(draw, 5, 2), 14)[0]
        for block in blocks(machine):
            self.assertTrue(fits(machine, block))
            for room in set(range(14)) - set(block):
                self.assertFalse(fits(machine, block + (room,)))


class ShrunkTest(unittest.TestCase):

    def test_written_out(self):
        self.assertEqual(shrunk(FULL), FULL)
        self.assertEqual(shrunk(ring([1, 2, 1, 2])), ring([1, 2]))
        self.assertEqual(shrunk(ring([4] * 24)), ring([4]))

    def test_order_in_which_rooms_are_reached(self):
        # Room 2 is reached ahead of room 1, so it is the first one behind room 0.
        machine = (2, (((2, 0), (1, 1)), ((1, 2), (0, 3)), ((0, 4), (2, 5))))
        self.assertEqual(shrunk(machine), (2, (((1, 0), (2, 1)), ((0, 4), (1, 5)), ((2, 2), (0, 3)))))

    def test_order_goes_by_the_first_room_of_a_block_that_is_reached(self):
        # Block (1, 3) is reached by room 3, ahead of room 2.
        machine = (1, (((3, 0),), ((2, 1),), ((0, 2),), ((2, 1),)))
        self.assertEqual(shrunk(machine), (1, (((1, 0),), ((2, 1),), ((0, 2),))))

    def test_rooms_that_no_row_goes_to(self):
        self.assertEqual(shrunk((1, (((0, 0),), ((1, 1),)))), ring([0]))
        self.assertEqual(shrunk((1, (((2, 0),), ((1, 1),), ((0, 5),), ((2, 0),)))), ring([0, 5]))

    def test_drawn_machines(self):
        draw = random.Random(66)
        for k in range(80):
            small = full(draw, draw.randint(1, 6), draw.randint(1, 3))
            machine, mixed = blown_up(draw, small, draw.randint(6, 24))
            told = shrunk(machine)
            self.assertTrue(is_machine(told) and is_full(told))
            self.assertEqual(stands(machine, told)[0], "yes")
            self.assertEqual(stands(told, machine)[0], "yes")
            self.assertEqual(blocks(told), [(room,) for room in range(len(told[1]))])
            self.assertEqual([room for room, row in reached(told)], list(range(len(told[1]))))
            self.assertEqual(told, shrunk(small))

    def test_order_and_cells_by_blocks(self):
        draw = random.Random(67)
        for k in range(40):
            machine = blown_up(draw, full(draw, 5, 2), 12)[0]
            home = {room: block for block in blocks(machine) for room in block}
            order = list(dict.fromkeys(home[room] for room, row in reached(machine)))
            told = shrunk(machine)
            self.assertEqual(len(told[1]), len(order))
            for number, block in enumerate(order):
                for room in block:
                    cells = tuple((order.index(home[goes]), says) for goes, says in machine[1][room])
                    self.assertEqual(told[1][number], cells)

    def test_no_machine_of_fewer_rooms_stands(self):
        draw = random.Random(68)
        looked = 0
        for k in range(40):
            machine = full(draw, draw.randint(2, 6), 1)
            told = shrunk(machine)
            for many in range(1, min(len(told[1]), 3)):
                for other in brute.all_machines(1, many, 2):
                    self.assertEqual(stands(machine, other)[0], "no")
                    looked += 1
        self.assertGreater(looked, 800)

    def test_each_machine_of_as_many_rooms_that_stands_is_this_one_but_for_names(self):
        draw = random.Random(69)
        others = {many: list(brute.all_machines(1, many, 2)) for many in (1, 2, 3)}
        looked = 0
        for k in range(25):
            machine = full(draw, draw.randint(1, 5), 1)
            told = shrunk(machine)
            for other in others.get(len(told[1]), []):
                if stands(machine, other)[0] == "yes":
                    self.assertIsNotNone(naming(told, other))
                    looked += 1
        self.assertGreater(looked, 15)

    def test_the_least_machine_is_this_one_but_for_names(self):
        draw = random.Random(70)
        told = 0
        for k in range(60):
            machine = blown_up(draw, full(draw, draw.randint(1, 5), draw.randint(1, 2)), 10)[0]
            try:
                other = least(machine)[0]
            except TooMany:
                continue
            self.assertIsNotNone(naming(shrunk(machine), other))
            told += 1
        self.assertGreater(told, 20)

    def test_many_rooms(self):
        # A ring of 24 that says 1 just once needs all.
        machine = ring([0] * 23 + [1])
        self.assertEqual(shrunk(machine), machine)
        self.assertEqual(blocks(machine), [(room,) for room in range(24)])
        self.assertRaises(NotFull, blocks, countdown(24))

    def test_drawn_machines_with_open_cells_are_refused(self):
        for machine in drawn(71, 100, 24, 4):
            if any(None in cell for room in machine[1] for cell in room):
                self.assertRaises(NotFull, blocks, machine)
                self.assertRaises(NotFull, shrunk, machine)
            else:
                self.assertTrue(is_full(machine))
