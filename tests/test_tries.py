"""[15] tries for so many rooms."""

import unittest

from opencells.errors import TooMany
from opencells.lotmachines import lots_fault
from opencells.tries import tries_for
from tests import brute
from tests.samples import SMALL, countdown, drawn, ring

# Three rooms in a row, all of which part.
THREE = (1, (((1, 0),), ((2, 1),), ((None, 2),)))


class TriesTest(unittest.TestCase):

    def assert_tries(self, machine, m, told):
        """Told so with just as many tries as there are, refused with one less."""
        count = told[0]
        self.assertEqual(tries_for(machine, m, 300), told)
        self.assertEqual(tries_for(machine, m, count), told)
        if count > 1:
            with self.assertRaises(TooMany):
                tries_for(machine, m, count - 1)

    def test_first_try_comes_out(self):
        for m in (1, 2, 24):
            self.assert_tries((1, (((None, 0),),)), m, (1, [(0,)]))
            self.assert_tries((2, (((None, 0), (None, None)), ((1, 1), (0, 0)))), m, (1, [(0,)]))

    def test_one_room(self):
        self.assert_tries(ring([1]), 1, (2, [(0,)]))
        self.assert_tries(ring([1, 1, None]), 1, (2, [(0, 1, 2)]))
        self.assert_tries(ring([1, 1, 2]), 1, (2, None))
        self.assert_tries(THREE, 1, (2, None))

    def test_too_few_rooms(self):
        # The first; lot 0 with 1 and 2; lots (0,), (1,); behind it 2 into lot 0, and into lot 1.
        self.assert_tries(THREE, 2, (5, None))

    def test_as_many_as_needed_and_more(self):
        for m in (3, 4, 24):
            self.assert_tries(THREE, m, (6, [(0,), (1,), (2,)]))

    def test_by_ask_behind_lot(self):
        # Room 0 leads to 1 by ask 0 and to 2 by ask 1; the gap of ask 0 goes first, so room 1's lot does.
        machine = (2, (((1, 0), (2, 0)), ((None, 1), (None, None)), ((None, 2), (None, None))))
        self.assert_tries(machine, 3, (6, [(0,), (1,), (2,)]))
        turned = (2, (((2, 0), (1, 0)), ((None, 1), (None, None)), ((None, 2), (None, None))))
        self.assert_tries(turned, 3, (6, [(0,), (2,), (1,)]))

    def test_first_lot_that_is_not_cut(self):
        # Room 2 fits room 0, and goes into its lot ahead of a new one.
        machine = (1, (((1, 0),), ((2, 1),), ((None, None),)))
        self.assert_tries(machine, 2, (4, [(0, 2), (1,)]))
        self.assert_tries(machine, 24, (4, [(0, 2), (1,)]))

    def test_settled_goes_on_through_lots(self):
        # When room 2 comes into lot 0, its follower 3 comes into lot 1, and so on round.
        self.assert_tries(ring([0, 1, None, None]), 2, (4, [(0, 2), (1, 3)]))
        self.assert_tries(ring([0, 1, None, 0]), 2, (5, None))

    def test_way_of_an_earlier_lot_that_was_none(self):
        # Ask 1 of lot 0 leads nowhere, till room 2 comes into it: then it is the gap ahead of those of lot 1.
        machine = (2, (((1, 0), (None, 0)), ((2, 1), (None, 1)), ((None, None), (3, 0)), ((None, 2), (None, None))))
        told = brute.Tries(machine, 3)
        self.assertEqual(told.lots, [(0, 2), (1,), (3,)])
        self.assert_tries(machine, 3, (told.count, told.lots))

    def test_as_many_tries_as_twenty_four_rooms_in_a_row_have(self):
        self.assert_tries(countdown(24), 24, (300, [(room,) for room in range(24)]))
        self.assert_tries(countdown(24), 23, (299, None))

    def test_rooms_in_a_row(self):
        for many in range(2, 24):
            # Each room tries all lots that there are, and then a new one.
            count = 1 + sum(k + 1 for k in range(1, many))
            lots = [(room,) for room in range(many)]
            self.assert_tries(countdown(many), many, (count, lots))
            self.assert_tries(countdown(many), 24, (count, lots))

    def test_more_than_most(self):
        for most in range(1, 6):
            with self.assertRaises(TooMany):
                tries_for(THREE, 24, most)

    def check_drawn(self, machines, counts):
        """Hold the tries for these counts of rooms against brute ones; how many came out, did not, were refused."""
        ends = {"out": 0, "none": 0, "refused": 0}
        for machine in machines:
            for m in counts:
                try:
                    told = brute.Tries(machine, m, 300)
                except brute.TooLong:
                    with self.assertRaises(TooMany):
                        tries_for(machine, m, 300)
                    ends["refused"] += 1
                    continue
                self.assert_tries(machine, m, (told.count, told.lots))
                ends["none" if told.lots is None else "out"] += 1
        return ends

    def test_drawn_machines(self):
        ends = self.check_drawn(drawn(22, 150, 5, 2) + drawn(23, 60, 4, 3, 3) + [SMALL], (1, 2, 3, 4, 24))
        self.assertTrue(ends["out"] > 100 and ends["none"] > 50, ends)

    def test_drawn_machines_of_many_rooms(self):
        ends = self.check_drawn(drawn(24, 60, 24, 3, 3), (2, 3, 4, 5, 24))
        self.assertTrue(ends["out"] > 20 and ends["none"] > 50 and ends["refused"] > 2, ends)

    def test_lots_that_come_out_are_closed(self):
        for machine in drawn(25, 100, 5, 2):
            for m in (1, 2, 5):
                try:
                    lots = tries_for(machine, m, 300)[1]
                except TooMany:
                    continue
                if lots is not None:
                    self.assertLessEqual(len(lots), m)
                    self.assertIsNone(lots_fault(machine, lots))
