"""[7] rows that part two rooms, and [8] the rooms that part."""

import itertools
import unittest

from opencells.partings import parted, parting
from tests import brute
from tests.samples import SMALL, drawn, two_rings


class PartingTest(unittest.TestCase):

    def test_one_ask(self):
        self.assertEqual(parting(SMALL, 0, 1), (0,))
        self.assertEqual(parting(SMALL, 1, 2), (0,))

    def test_more_asks(self):
        self.assertEqual(parting(SMALL, 0, 2), (0, 0))
        self.assertEqual(parting(SMALL, 2, 0), (0, 0))

    def test_room_and_itself(self):
        for room in range(3):
            self.assertIsNone(parting(SMALL, room, room))

    def test_rooms_that_fit(self):
        self.assertIsNone(parting((1, (((0, 1),), ((1, None),))), 0, 1))
        self.assertIsNone(parting((2, (((1, 0), (0, 1)), ((0, 0), (1, 1)))), 0, 1))

    def test_open_answers_part_nothing(self):
        machine = (1, (((2, None),), ((3, 4),), ((None, None),), ((None, 5),)))
        for one, other in itertools.combinations((0, 1, 2), 2):
            self.assertIsNone(parting(machine, one, other))
        self.assertEqual(parting(machine, 1, 3), (0,))

    def test_open_ways_end_the_rows(self):
        # Rooms 2 and 3 part, but only one of the rooms 0 and 1 leads on.
        machine = (1, (((2, 0),), ((None, 0),), ((None, 1),), ((None, 2),)))
        self.assertIsNone(parting(machine, 0, 1))
        led = (1, (((2, 0),), ((3, 0),), ((None, 1),), ((None, 2),)))
        self.assertEqual(parting(led, 0, 1), (0, 0))

    def test_last_cell_may_lead_nowhere(self):
        self.assertEqual(parting((1, (((None, 0),), ((None, 7),))), 0, 1), (0,))

    def test_answer_nought_is_an_answer(self):
        self.assertEqual(parting((1, (((0, 0),), ((0, 1),))), 0, 1), (0,))
        self.assertEqual(parting((1, (((0, 1),), ((0, 0),))), 0, 1), (0,))

    def test_shorter_goes_ahead_of_first_as_tuple(self):
        # (0, 0) parts rooms 0 and 1, and so does (1,).
        machine = (2, (((2, 0), (0, 1)), ((3, 0), (1, 2)), ((None, 1), (None, None)), ((None, 2), (None, None))))
        self.assertEqual(parting(machine, 0, 1), (1,))

    def test_first_as_tuple_of_those_as_short(self):
        # (1, 0) and (0, 1) part rooms 0 and 1: by ask 0 they come to 2 and 3, by ask 1 to 4 and 5.
        none = (None, None)
        machine = (2, (((2, 0), (4, 0)), ((3, 0), (5, 0)), (none, (None, 1)), (none, (None, 2)),
                       ((None, 1), none), ((None, 2), none)))
        self.assertEqual(parting(machine, 0, 1), (0, 1))

    def test_one_room_on_both_ways_ends_them(self):
        self.assertIsNone(parting((1, (((2, None),), ((2, 1),), ((0, 0),))), 0, 1))

    def test_rings(self):
        for one, other in ((2, 3), (5, 7), (11, 13), (9, 14), (1, 23), (11, 12)):
            machine = two_rings(one, other)
            row = (0,) * (one * other)
            self.assertEqual(parting(machine, 0, one), row)
            self.assertEqual(parting(machine, one, 0), row)
            self.assertEqual(parting(machine, one - 1, one + other - 1), (0,))

    def test_rings_that_never_end_at_once(self):
        self.assertIsNone(parting(two_rings(12, 12), 0, 13))
        self.assertIsNone(parting(two_rings(10, 14), 0, 11))

    def test_drawn_machines_of_two_asks(self):
        for machine in drawn(7, 150, 4, 2):
            self.check_all(machine)

    def test_drawn_machines_of_more_asks(self):
        for machine in drawn(8, 80, 3, 4, 3):
            self.check_all(machine)

    def check_all(self, machine):
        for one in range(len(machine[1])):
            for other in range(len(machine[1])):
                self.assertEqual(parting(machine, one, other), brute.first_parting(machine, one, other), machine)


class PartedTest(unittest.TestCase):

    def test_small(self):
        self.assertEqual(parted(SMALL), [(0, 1), (0, 2), (1, 2)])

    def test_none(self):
        self.assertEqual(parted((1, (((0, 0),),))), [])
        self.assertEqual(parted((2, (((0, None), (1, None)),) * 5)), [])

    def test_all(self):
        machine = (1, tuple(((None, says),) for says in range(8)))
        self.assertEqual(parted(machine), list(itertools.combinations(range(8), 2)))

    def test_behind_one_another(self):
        # Only the last two rooms part by one ask; the way to them goes room by room.
        machine = (1, (((2, 0),), ((3, 0),), ((4, 0),), ((5, 0),), ((None, 1),), ((None, 2),)))
        self.assertEqual(parted(machine), [(0, 1), (0, 2), (0, 3), (0, 4), (0, 5), (1, 2), (1, 3), (1, 4), (1, 5),
                                           (2, 3), (2, 4), (2, 5), (3, 4), (3, 5), (4, 5)])

    def test_ways_that_cross(self):
        # By its ask each of 0 and 1 leads to the greater and the lesser of two rooms that part.
        machine = (1, (((3, None),), ((2, None),), ((None, 1),), ((None, 2),)))
        self.assertEqual(parted(machine), [(0, 1), (2, 3)])

    def test_just_those_that_a_row_parts(self):
        for machine in drawn(9, 60, 24, 4) + drawn(10, 60, 8, 2) + [two_rings(11, 13), two_rings(9, 14)]:
            rooms = range(len(machine[1]))
            expected = [pair for pair in itertools.combinations(rooms, 2) if parting(machine, *pair) is not None]
            self.assertEqual(parted(machine), expected)
            self.assertEqual(set(expected), brute.part_by_sweeps(machine))

    def test_rows_of_greater_machines_part(self):
        for machine in drawn(11, 20, 24, 3):
            for one, other in parted(machine):
                row = parting(machine, one, other)
                self.assertTrue(brute.parts(machine, one, other, row))
                self.assertEqual(parting(machine, other, one), row)
