"""[20] namings of two machines."""

import itertools
import random
import unittest

from opencells.errors import Unreached
from opencells.namings import naming
from opencells.runs import reached
from tests import brute
from tests.samples import FULL, SMALL, countdown, draw_machine, ring


def with_names(machine, names):
    """The machine with room r as room names[r]."""
    rooms = [None] * len(names)
    for room, cells in enumerate(machine[1]):
        rooms[names[room]] = tuple((None if goes is None else names[goes], says) for goes, says in cells)
    return (machine[0], tuple(rooms))


def draw_names(draw, many):
    return (0, *draw.sample(range(1, many), many - 1))


def draw_reached(draw, rooms, asks, answers=2):
    """A drawn machine all of whose rooms are reached."""
    while True:
        machine = draw_machine(draw, rooms, asks, 0.15, 0.3, answers)
        if len(reached(machine)) == rooms:
            return machine


def all_namings(one, other):
    return [names for names in itertools.permutations(range(len(one[1]))) if brute.is_naming(one, other, names)]


class NamingTest(unittest.TestCase):

    def test_written_out(self):
        self.assertEqual(naming(SMALL, SMALL), (0, 1, 2))
        self.assertEqual(naming(SMALL, with_names(SMALL, (0, 2, 1))), (0, 2, 1))
        one = (1, (((1, 0),), ((2, None),), ((None, 3),)))
        other = (1, (((2, 0),), ((None, 3),), ((1, None),)))
        self.assertEqual(naming(one, other), (0, 2, 1))
        self.assertIs(type(naming(one, other)), tuple)

    def test_drawn_names(self):
        draw = random.Random(81)
        for rooms in list(range(1, 12)) + [24]:
            for asks in range(2, 5):
                machine = draw_reached(draw, rooms, asks)
                names = draw_names(draw, rooms)
                self.assertEqual(naming(machine, with_names(machine, names)), names)
                self.assertEqual(naming(machine, machine), tuple(range(rooms)))

    def test_twenty_four_rooms_in_a_row(self):
        draw = random.Random(82)
        for machine in (countdown(24), ring([0] * 24), ring([None] * 24)):
            names = draw_names(draw, 24)
            self.assertEqual(naming(machine, with_names(machine, names)), names)

    def test_all_orders(self):
        draw = random.Random(83)
        told = 0
        for k in range(400):
            asks = draw.randint(1, 2)
            one = draw_reached(draw, draw.randint(1, 3), asks)
            other = draw_reached(draw, len(one[1]), asks)
            if draw.random() < 0.3:
                other = with_names(one, draw_names(draw, len(one[1])))
            found = all_namings(one, other)
            self.assertLessEqual(len(found), 1)
            self.assertEqual(naming(one, other), found[0] if found else None)
            told += len(found)
        self.assertGreater(told, 100)

    def test_one_cell_otherwise(self):
        draw = random.Random(84)
        for k in range(30):
            rooms, asks = draw.randint(2, 5), draw.randint(1, 2)
            machine = draw_reached(draw, rooms, asks)
            other = [list(cells) for cells in with_names(machine, draw_names(draw, rooms))[1]]
            for room, ask in itertools.product(range(rooms), range(asks)):
                goes, says = kept = other[room][ask]
                cells = [(goes, None if says == 0 else 0), (goes, 7), (None, says), ((room + 1) % rooms, says), (0, says)]
                for cell in cells:
                    other[room][ask] = cell
                    spoilt = (asks, tuple(tuple(cells) for cells in other))
                    if len(reached(spoilt)) == rooms:
                        found = all_namings(machine, spoilt)
                        self.assertEqual(naming(machine, spoilt), found[0] if found else None)
                        self.assertEqual(naming(spoilt, machine) is None, not found)
                other[room][ask] = kept

    def test_open_for_open(self):
        self.assertIsNone(naming(ring([0, None]), ring([0, 1])))
        self.assertIsNone(naming(ring([0, 1]), ring([0, None])))
        self.assertIsNone(naming((1, (((None, 0),),)), ring([0])))
        self.assertIsNone(naming(ring([0]), (1, (((None, 0),),))))
        self.assertEqual(naming(ring([0, None]), ring([0, None])), (0, 1))
        self.assertEqual(naming((1, (((None, None),),)), (1, (((None, None),),))), (0,))

    def test_begin_is_named_begin(self):
        self.assertIsNone(naming(ring([0, 1]), ring([1, 0])))

    def test_rooms_that_fit_are_still_two(self):
        # Both say the same all along, but their rooms do not go as one another's do.
        one = (2, (((1, 0), (2, 0)), ((0, 0), (1, 0)), ((2, 0), (0, 0))))
        other = (2, (((1, 0), (2, 0)), ((0, 0), (2, 0)), ((2, 0), (0, 0))))
        self.assertEqual(all_namings(one, other), [])
        self.assertIsNone(naming(one, other))
        self.assertIsNone(naming(other, one))

    def test_one_room_of_the_one_for_two_of_the_other(self):
        # By the same rows the one goes round by two, the other by three rooms.
        one = (2, (((1, 0), (2, 0)), ((0, 0), (0, 0)), ((0, 0), (0, 0))))
        other = (2, (((1, 0), (2, 0)), ((2, 0), (0, 0)), ((0, 0), (0, 0))))
        self.assertIsNone(naming(one, other))
        self.assertIsNone(naming(other, one))

    def test_unlike_counts(self):
        self.assertIsNone(naming(ring([0, 0]), ring([0, 0, 0])))
        self.assertIsNone(naming(ring([0, 0, 0]), ring([0, 0])))
        self.assertIsNone(naming(FULL, ring([0, 0, 1])))
        self.assertIsNone(naming(ring([0, 0, 1]), FULL))
        self.assertIsNone(naming((1, (((0, 0),),)), (2, (((0, 0), (0, 0)),))))
        self.assertIsNone(naming((2, (((0, 0), (0, 0)),)), (1, (((0, 0),),))))
        self.assertIsNone(naming(countdown(23), countdown(24)))
        # Each room of the greater ring goes with one of the lesser, and yet they aren't as many.
        self.assertIsNone(naming(ring([0, 1, 0, 1]), ring([0, 1])))
        self.assertIsNone(naming(ring([0, 1]), ring([0, 1, 0, 1])))

    def test_unreached(self):
        lone = (1, (((0, 0),), ((1, 1),)))
        open_one = (1, (((None, 0),), ((0, 1),)))
        two_asks = (2, (((0, 0), (0, 0)),))
        for machine in (lone, open_one, (4, (((None, None),) * 4,) * 24)):
            for other in (machine, ring([0, 1]), ring([0]), two_asks, FULL):
                self.assertRaises(Unreached, naming, machine, other)
                self.assertRaises(Unreached, naming, other, machine)
