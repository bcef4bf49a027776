"""[9] rooms that fit, followers, greatest lots."""

import itertools
import random
import unittest

from opencells.errors import TooMany
from opencells.lots import fits, followers, greatest_lots
from tests import brute
from tests.samples import SMALL, draw_machine, drawn, two_rings

# Room 0 fits 1 and 2, which part.
BETWEEN = (1, (((0, None),), ((1, 1),), ((2, 2),)))


class FitsTest(unittest.TestCase):

    def test_none_and_one(self):
        self.assertIs(fits(SMALL, ()), True)
        for room in range(3):
            self.assertIs(fits(SMALL, (room,)), True)

    def test_in_any_order(self):
        for rooms in ((0, 1), (1, 0), (0, 2), (2, 0)):
            self.assertIs(fits(BETWEEN, rooms), True)
        for rooms in itertools.permutations((0, 1, 2)):
            self.assertIs(fits(BETWEEN, rooms), False)
        self.assertIs(fits(BETWEEN, (1, 2)), False)
        self.assertIs(fits(BETWEEN, (2, 1)), False)

    def test_some_twice(self):
        self.assertIs(fits(BETWEEN, (1, 1)), True)
        self.assertIs(fits(BETWEEN, (1, 0, 1, 0, 0)), True)
        self.assertIs(fits(BETWEEN, (1, 1, 0, 2, 2)), False)

    def test_rooms_that_a_long_row_parts(self):
        self.assertIs(fits(two_rings(11, 13), (11, 0)), False)
        self.assertIs(fits(two_rings(12, 12), (13, 0)), True)

    def test_drawn_rooms(self):
        draw = random.Random(9)
        for machine in drawn(12, 100, 24, 3):
            parted = brute.part_by_sweeps(machine)
            for k in range(6):
                rooms = tuple(draw.randrange(len(machine[1])) for at in range(draw.randint(0, 5)))
                pairs = itertools.permutations(rooms, 2)
                self.assertIs(fits(machine, rooms), not any(pair in parted for pair in pairs))


class FollowersTest(unittest.TestCase):

    def test_rising_and_each_once(self):
        machine = (1, (((3, 0),), ((1, 0),), ((3, 0),), ((0, 0),)))
        self.assertEqual(followers(machine, (0, 1, 2, 3), 0), (0, 1, 3))
        self.assertEqual(followers(machine, (0, 2), 0), (3,))
        self.assertEqual(followers(machine, (0, 1), 0), (1, 3))

    def test_rising_whatever_the_rooms(self):
        # Python's sets keep small numbers in an order of their own, often the rising one, but not here.
        machine = (1, tuple(((goes, 0),) for goes in (16, 8, 0) + (1,) * 21))
        self.assertEqual(followers(machine, (0, 1, 2), 0), (0, 8, 16))
        self.assertEqual(followers(machine, (0, 1), 0), (8, 16))

    def test_of_none(self):
        self.assertEqual(followers(SMALL, (), 0), ())
        self.assertEqual(followers(SMALL, (), 1), ())

    def test_open_cells_lead_nowhere(self):
        self.assertEqual(followers(SMALL, (0, 1, 2), 1), (0,))
        self.assertEqual(followers(SMALL, (1, 2), 1), ())
        self.assertEqual(followers(SMALL, (0, 1, 2), 0), (0, 1, 2))

    def test_of_rooms_that_part(self):
        self.assertEqual(followers(BETWEEN, (1, 2), 0), (1, 2))

    def test_all_rooms(self):
        draw = random.Random(10)
        for k in range(40):
            machine = draw_machine(draw, 24, 2)
            for ask in range(2):
                told = followers(machine, tuple(range(24)), ask)
                self.assertEqual(told, tuple(sorted({room[ask][0] for room in machine[1]} - {None})))


class GreatestLotsTest(unittest.TestCase):

    def test_written_out(self):
        self.assertEqual(greatest_lots(SMALL), [(0,), (1,), (2,)])
        self.assertEqual(greatest_lots(BETWEEN), [(0, 1), (0, 2)])
        self.assertEqual(greatest_lots((1, (((None, None),),))), [(0,)])

    def test_all_fit(self):
        for many in (1, 2, 11, 12):
            self.assertEqual(greatest_lots((1, (((0, None),),) * many)), [tuple(range(many))])

    def test_rising_as_tuples(self):
        # Rooms say 1, open, 2, 1: the open one stands in both lots.
        machine = (1, (((0, 1),), ((0, None),), ((0, 2),), ((0, 1),)))
        self.assertEqual(greatest_lots(machine), [(0, 1, 3), (1, 2)])

    def test_as_many_as_twelve_rooms_have(self):
        # Four threes: each two rooms of one three part, all else fit.
        cells = [tuple((None, room % 3 if ask == room // 3 else None) for ask in range(4)) for room in range(12)]
        lots = greatest_lots((4, tuple(cells)))
        self.assertEqual(lots, sorted(itertools.product((0, 1, 2), (3, 4, 5), (6, 7, 8), (9, 10, 11))))

    def test_drawn_machines(self):
        for machine in drawn(13, 120, 7, 3, 3) + drawn(14, 10, 12, 2):
            self.assertEqual(greatest_lots(machine), brute.greatest(machine))

    def test_thirteen_rooms_and_more(self):
        for many in (13, 14, 24):
            with self.assertRaises(TooMany):
                greatest_lots((1, (((0, 0),),) * many))
