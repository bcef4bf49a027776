"""[17] least machines, and papers that fewer rooms can't."""

import unittest

from opencells.errors import TooMany
from opencells.least import least, paper_for
from opencells.lotmachines import lots_fault, made
from opencells.machines import is_machine
from opencells.papers import needs
from opencells.standing import pairs_fault, stands
from opencells.tries import tries_for
from tests import brute
from tests.samples import FULL, SMALL, countdown, drawn, ring, two_rings

# For five rooms just 300 tries of the one, just 301 of the other; none of them comes out.
JUST_LET = (2, (((5, 1), (5, 1)), ((4, 1), (5, 2)), ((2, 0), (4, 1)), ((5, 0), (4, 1)), ((6, 2), (2, 1)),
                ((2, 0), (2, 2)), ((3, 0), (4, 1))))
ONE_MORE = (2, (((2, 1), (2, 1)), ((5, 0), (1, 1)), ((3, 0), (2, 0)), ((4, None), (4, None)), ((2, 1), (6, None)),
                ((5, 0), (2, 1)), ((2, 0), (1, 1))))

# All tries, for one room, for two, and so on, together: 300, and 301.
JUST_TOGETHER = [
    (2, (((0, 1), (3, 1)), ((2, 1), (2, 1)), ((1, 0), (2, 1)), ((0, 1), (4, 0)), ((0, 0), (2, 0)))),
    (2, (((1, 0), (0, 0)), ((2, None), (0, 1)), ((3, 0), (4, 0)), ((5, None), (3, 2)), ((None, 0), (5, 2)),
         ((None, 2), (3, 1)))),
]
ONE_MORE_TOGETHER = [
    (2, (((0, 0), (3, 2)), ((3, 0), (4, None)), ((0, 0), (3, 2)), ((6, 0), (5, 2)), ((0, 0), (3, 0)),
         ((None, 0), (1, 2)), ((5, 0), (6, None)))),
    (2, (((5, 0), (7, 3)), ((1, 2), (None, 3)), ((1, 1), (6, 0)), ((6, 3), (3, 0)), ((None, 1), (2, 1)),
         ((5, 1), (4, 1)), ((None, 1), (7, 0)), ((7, 0), (2, 1)))),
]


class PaperForTest(unittest.TestCase):

    def test_a_paper_where_no_try_comes_out(self):
        for machine, rooms in ((countdown(24), 24), (ring([0, 1, 2, 3]), 4), (FULL, 3), (JUST_LET, 6)):
            for many in range(2, rooms + 1):
                self.assertIs(needs(machine, many, paper_for(machine, many)), True)

    def test_none_where_a_try_comes_out(self):
        for many in range(2, 25):
            self.assertIsNone(paper_for((4, (((None, None),) * 4,) * 24), many))
            self.assertIsNone(paper_for(ring([1]), many))
            self.assertEqual(paper_for(SMALL, many) is None, many > 3)
            self.assertEqual(paper_for(countdown(9), many) is None, many > 9)

    def test_three_hundred_tries_are_let(self):
        self.assertEqual(tries_for(JUST_LET, 5, 300), (300, None))
        self.assertIs(needs(JUST_LET, 6, paper_for(JUST_LET, 6)), True)

    def test_one_more_is_refused(self):
        self.assertEqual(tries_for(ONE_MORE, 5, 301), (301, None))
        with self.assertRaises(TooMany):
            paper_for(ONE_MORE, 6)

    def test_one_more_is_refused_even_where_it_comes_out(self):
        just, more = countdown(23, {21: 10, 22: 12}), countdown(23, {21: 11, 22: 12})
        self.assertEqual(tries_for(just, 23, 300)[0], 300)
        self.assertEqual(tries_for(more, 23, 301)[0], 301)
        self.assertIsNotNone(tries_for(more, 23, 301)[1])
        self.assertIsNone(paper_for(just, 24))
        with self.assertRaises(TooMany):
            paper_for(more, 24)

    def test_drawn_machines(self):
        ends = {"paper": 0, "none": 0, "refused": 0}
        for machine in drawn(51, 60, 24, 3, 3) + drawn(52, 60, 6, 2):
            for many in (2, 3, 4, 5, 7, 24):
                try:
                    tries = brute.Tries(machine, many - 1, 300)
                except brute.TooLong:
                    self.assertRaises(TooMany, paper_for, machine, many)
                    ends["refused"] += 1
                    continue
                paper = paper_for(machine, many)
                self.assertEqual(paper is None, tries.lots is not None)
                if paper is not None:
                    self.assertTrue(brute.is_paper(machine, many, paper))
                    self.assertIs(needs(machine, many, paper), True)
                ends["none" if paper is None else "paper"] += 1
        self.assertTrue(all(many > 5 for many in ends.values()), ends)


class LeastTest(unittest.TestCase):

    def assert_least(self, machine, other, lots):
        told = least(machine)
        self.assertEqual(told[:2], (other, lots))
        self.assertIs(type(told[1]), list)
        if len(lots) == 1:
            self.assertIsNone(told[2])
        else:
            self.assertIs(needs(machine, len(lots), told[2]), True)
            self.assertTrue(brute.is_paper(machine, len(lots), told[2]))

    def test_written_out(self):
        self.assert_least((1, (((1, 0),), ((2, 1),), ((None, None),))), (1, (((1, 0),), ((0, 1),))), [(0, 2), (1,)])
        self.assert_least(SMALL, SMALL, [(0,), (1,), (2,)])
        machine = (2, (((1, 0), (0, None)), ((2, 1), (None, 3)), ((None, 0), (None, 5))))
        self.assert_least(machine, (2, (((1, 0), (0, 5)), ((0, 1), (None, 3)))), [(0, 2), (1,)])
        self.assert_least(FULL, FULL, [(0,), (1,), (2,)])

    def test_one_room(self):
        self.assert_least(ring([3, 3, None, 3]), ring([3]), [(0, 1, 2, 3)])
        self.assert_least((1, (((None, 5),), ((0, 1),))), (1, (((None, 5),),)), [(0,)])

    def test_all_open(self):
        for asks in range(1, 5):
            machine = (asks, (((None, None),) * asks,) * 24)
            self.assert_least(machine, (asks, (((None, None),) * asks,)), [(0,)])

    def test_open_in_what_is_said_alone(self):
        machine = (1, tuple((((room + 1) % 24, None),) for room in range(24)))
        self.assert_least(machine, ring([None]), [tuple(range(24))])

    def test_cells_go_by_the_ways(self):
        for machine in drawn(53, 300, 6, 2):
            other, lots, total = brute.least(machine)
            self.assert_least(machine, other, lots)

    def test_lots_in_common(self):
        # Room 1, all open, fits both rooms 0 and 2, which part: it is in a lot with each of them.
        machine = (2, (((2, 0), (1, None)), ((None, None), (None, None)), ((1, 1), (1, None))))
        self.assert_least(machine, (2, (((1, 0), (0, None)), ((0, 1), (0, None)))), [(0, 1), (2,)])
        machine = (2, (((3, 0), (1, None)), ((None, None), (None, 4)), ((None, None), (None, 5)), ((2, 1), (1, None))))
        self.assert_least(machine, *brute.least(machine)[:2])

    def test_alike_made_of_the_lots(self):
        # Lots are tried in their order: so the first one in which the followers lie is the way.
        for machine in drawn(54, 300, 7, 2):
            try:
                other, lots, paper = least(machine)
            except TooMany:
                continue
            self.assertEqual(other, made(machine, lots))

    def test_three_hundred_tries_together_are_let(self):
        for machine in JUST_TOGETHER:
            other, lots, total = brute.least(machine)
            self.assertEqual(total, 300)
            self.assert_least(machine, other, lots)

    def test_one_more_is_refused(self):
        for machine in ONE_MORE_TOGETHER:
            counts = []
            while not counts or counts[-1][1] is None:
                counts.append(tries_for(machine, len(counts) + 1, 300))
            self.assertEqual(sum(count for count, lots in counts), 301)
            with self.assertRaises(TooMany):
                least(machine)

    def test_more_than_three_hundred_in_one_count(self):
        with self.assertRaises(TooMany):
            least(countdown(24))
        with self.assertRaises(TooMany):
            least(ONE_MORE)

    def test_many_rooms_in_a_row(self):
        for many in range(2, 9):
            self.assert_least(countdown(many), countdown(many), [(room,) for room in range(many)])

    def test_rooms_not_reached_are_left_out(self):
        self.assert_least((1, (((0, 0),), ((1, 1),), ((0, 2),))), ring([0]), [(0,)])
        self.assert_least(two_rings(3, 4), ring([0]), [(0, 1, 2)])

    def test_drawn_machines(self):
        ends = {"told": 0, "refused": 0}
        for machine in drawn(55, 150, 24, 4, 3) + drawn(56, 100, 7, 2, 3):
            try:
                other, lots, total = brute.least(machine)
            except brute.TooLong:
                self.assertRaises(TooMany, least, machine)
                ends["refused"] += 1
                continue
            self.assert_least(machine, other, lots)
            ends["told"] += 1
        self.assertTrue(all(many > 20 for many in ends.values()), ends)


class StandsTest(unittest.TestCase):

    def test_the_least_machine_stands_by_its_pairs(self):
        for machine in drawn(57, 200, 12, 3) + JUST_TOGETHER:
            try:
                other, lots, paper = least(machine)
            except TooMany:
                continue
            self.assertTrue(is_machine(other))
            self.assertEqual(len(other[1]), len(lots))
            self.assertIsNone(lots_fault(machine, lots))
            verdict, pairs = stands(machine, other)
            self.assertEqual(verdict, "yes")
            self.assertIsNone(pairs_fault(machine, other, pairs))
            # So do all pairs of a room and its lot.
            whole = [(room, i) for i, lot in enumerate(lots) for room in lot]
            self.assertIsNone(pairs_fault(machine, other, whole))

    def test_no_machine_of_fewer_rooms_stands(self):
        fewer = {(asks, rooms): list(brute.all_machines(asks, rooms, 2))
                 for asks, rooms in ((1, 1), (2, 1), (1, 2), (2, 2))}
        looked = {2: 0, 3: 0}
        for machine in drawn(58, 150, 5, 1) + drawn(59, 80, 4, 2):
            other, lots, paper = least(machine)
            if len(lots) in looked and looked[len(lots)] < 15:
                looked[len(lots)] += 1
                for less in fewer[(machine[0], len(lots) - 1)]:
                    self.assertEqual(stands(machine, less)[0], "no")
        self.assertTrue(all(many > 8 for many in looked.values()), looked)

    def test_one_of_as_many_rooms_is_the_least_there_is(self):
        three = list(brute.all_machines(1, 3, 2, False))
        for machine in drawn(60, 40, 5, 1):
            stand = [other for many in (1, 2) for other in brute.all_machines(1, many, 2)
                     if stands(machine, other)[0] == "yes"]
            stand += [other for other in three if stands(machine, other)[0] == "yes"]
            if stand:
                self.assertEqual(len(least(machine)[1]), min(len(other[1]) for other in stand))
