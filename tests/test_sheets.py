"""[21], [22], [23] told rows, their trees, and the least machines that agree with them."""

import itertools
import random
import unittest

from opencells.errors import Clash, TooMany
from opencells.least import least
from opencells.machines import is_machine
from opencells.papers import needs
from opencells.sheets import disagrees, least_of, tree_of
from opencells.standing import stands
from tests import brute, brutesheets
from tests.samples import FULL, SMALL, countdown, draw_machine, draw_sheet, draw_sheet_of, drawn_likeness, ring

# Its tree has five rooms, in this order: (), (0,), (0, 1), (1,), (1, 2).
SHEET = [((0, 1, 1), (3, None, 5)), ((1, 2, 0), (None, 0, 0)), ((0, 1), (None, 4))]


def long_row(asks, answers=None):
    """A told row of these asks, with answers all unknown, or as told."""
    return (tuple(asks), tuple(answers or [None] * len(asks)))


class TreeTest(unittest.TestCase):

    def test_written_out(self):
        self.assertEqual(tree_of(3, SHEET), (3, (
            ((1, 3), (3, None), (None, None)),
            ((None, None), (2, 4), (None, None)),
            ((None, None), (None, 5), (None, None)),
            ((None, None), (None, None), (4, 0)),
            ((None, 0), (None, None), (None, None)),
        )))

    def test_no_told_rows(self):
        for asks in range(1, 5):
            self.assertEqual(tree_of(asks, []), (asks, (((None, None),) * asks,)))

    def test_one_ask(self):
        self.assertEqual(tree_of(1, [((0,), (7,))]), (1, (((None, 7),),)))
        self.assertEqual(tree_of(2, [((1,), (None,))]), (2, (((None, None), (None, None)),)))
        self.assertEqual(tree_of(2, [((1,), (0,))]), (2, (((None, None), (None, 0)),)))

    def test_more_asks_than_the_rows_use(self):
        for asks in (3, 4):
            told = tree_of(asks, SHEET)
            self.assertTrue(is_machine(told))
            self.assertEqual([room[:3] for room in told[1]], [room[:3] for room in tree_of(3, SHEET)[1]])
            self.assertTrue(all(cell == (None, None) for room in told[1] for cell in room[3:]))

    def test_rooms_row_by_row_shorter_ones_first(self):
        # The first row has (1,), the second one (0,): it comes behind, though it is the first as tuples.
        sheet = [((1, 1), (0, 1)), ((0, 0, 0), (2, 3, 4)), ((1, 1, 0), (None, None, 6))]
        self.assertEqual(tree_of(2, sheet), (2, (
            ((2, 2), (1, 0)),
            ((None, None), (4, 1)),
            ((3, 3), (None, None)),
            ((None, 4), (None, None)),
            ((None, 6), (None, None)),
        )))
        self.assertNotEqual(tree_of(2, sheet[::-1]), tree_of(2, sheet))

    def test_a_row_that_goes_on_later(self):
        # Behind (0, 1) nothing is known by the first row; the second one goes on there.
        sheet = [((0, 1), (1, 2)), ((0, 1, 0), (None, None, 3))]
        self.assertEqual(tree_of(2, sheet), (2, (
            ((1, 1), (None, None)), ((None, None), (2, 2)), ((None, 3), (None, None)))))
        self.assertEqual(tree_of(2, sheet[::-1]), tree_of(2, sheet))

    def test_unknown_answers(self):
        sheet = [long_row((0, 0, 0)), ((0, 0), (None, 6)), ((0,), (5,))]
        self.assertEqual(tree_of(1, sheet), (1, (((1, 5),), ((2, 6),), ((None, None),))))
        self.assertEqual(tree_of(1, sheet[::-1]), tree_of(1, sheet))

    def test_told_rows_twice(self):
        for asks in (3, 4):
            self.assertEqual(tree_of(asks, SHEET + SHEET), tree_of(asks, SHEET))
            self.assertEqual(tree_of(asks, SHEET[:1] * 8 + SHEET * 5), tree_of(asks, SHEET))

    def test_answer_nought_is_told(self):
        self.assertEqual(tree_of(1, [((0,), (None,)), ((0,), (0,))]), (1, (((None, 0),),)))
        with self.assertRaises(Clash):
            tree_of(1, [((0,), (0,)), ((0,), (1,))])

    def assert_clash(self, asks, sheet, row, place):
        for refused in (tree_of, least_of):
            with self.assertRaises(Clash) as caught:
                refused(asks, sheet)
            self.assertEqual((caught.exception.row, caught.exception.place), (row, place))

    def test_clash(self):
        self.assert_clash(1, [((0,), (1,)), ((0,), (2,))], 1, 0)
        self.assert_clash(2, [((0, 1), (1, 2)), ((1, 1), (1, 3)), ((0, 1, 1), (1, 3, 4))], 2, 1)
        self.assert_clash(2, [((0, 1), (None, 2)), ((0, 1), (4, None)), ((0, 1), (5, 3))], 2, 0)
        self.assert_clash(2, [((0, 1), (None, 2)), ((0, 1), (4, None)), ((0, 1), (4, 3))], 2, 1)

    def test_the_first_told_row_and_the_first_place_in_it(self):
        sheet = [((0, 0, 0), (1, 1, 1)), ((0, 0, 0), (1, 2, 2)), ((0,), (3,))]
        self.assert_clash(1, sheet, 1, 1)
        self.assert_clash(1, sheet[::-1], 1, 0)

    def test_unknown_is_unlike_none(self):
        sheet = [((0, 0), (None, None)), ((0, 0), (1, None)), ((0, 0), (None, 2)), ((0, 0), (1, 2)), ((0, 0), (None, 2))]
        for some in itertools.permutations(sheet):
            self.assertEqual(tree_of(1, list(some)), (1, (((1, 1),), ((None, 2),))))

    def test_unlike_answers_of_other_beginnings_are_no_clash(self):
        self.assertTrue(is_machine(tree_of(2, [((0, 0), (1, 2)), ((1, 0), (1, 3)), ((0, 1), (1, 4)), ((1,), (1,))])))

    def test_as_many_rooms_as_may_be(self):
        # Two rows of 12 asks that begin unlike have 1 + 11 + 11 rooms; the third row has one more, (0,), the last one (0, 0).
        sheet = [long_row([1] * 12), long_row([2] * 12), long_row((0, 0))]
        self.assertEqual(len(tree_of(4, sheet)[1]), 24)
        sheet.append(long_row((0, 0, 0)))
        with self.assertRaises(TooMany):
            tree_of(4, sheet)
        with self.assertRaises(TooMany):
            least_of(4, sheet)

    def test_most_told_rows(self):
        sheet = [long_row((0,) * 12, (7,) * 12)] * 24
        self.assertEqual(len(tree_of(1, sheet)[1]), 12)
        wide = [long_row(row) for row in itertools.islice(itertools.product(range(4), repeat=12), 0, 24 * 30000, 30000)]
        with self.assertRaises(TooMany):
            tree_of(4, wide)

    def test_clash_ahead_of_too_many(self):
        wide = [long_row([k, j] + [0] * 10) for k in range(3) for j in range(3)]
        with self.assertRaises(TooMany):
            tree_of(3, wide)
        self.assert_clash(3, wide + [((0,), (1,)), ((0, 2), (2, 2))], 10, 0)
        self.assert_clash(3, [((0,), (1,))] + wide + [((0, 2), (None, 2)), ((0, 2), (1, 3))], 11, 1)

    def test_drawn_sheets(self):
        draw = random.Random(101)
        ends = {"told": 0, "clash": 0, "many": 0}
        for k in range(600):
            asks = draw.randint(1, 4)
            sheet = draw_sheet(draw, asks, 8, 8, draw.choice((1, 2, 8)), draw.choice((0.3, 0.8)))
            clash = brutesheets.first_clash(sheet)
            if clash is not None:
                self.assert_clash(asks, sheet, *clash)
                ends["clash"] += 1
            elif len(brutesheets.beginnings(sheet)) > 24:
                self.assertRaises(TooMany, tree_of, asks, sheet)
                ends["many"] += 1
            else:
                told = tree_of(asks, sheet)
                self.assertEqual(told, brutesheets.tree_of(asks, sheet))
                self.assertTrue(is_machine(told))
                ends["told"] += 1
        self.assertTrue(all(many > 20 for many in ends.values()), ends)


class DisagreesTest(unittest.TestCase):

    def test_none(self):
        self.assertIsNone(disagrees(FULL, []))
        self.assertIsNone(disagrees(tree_of(3, SHEET), SHEET))
        self.assertIsNone(disagrees(ring([1, 2]), [((0, 0, 0), (1, 2, 1)), ((0,), (None,)), ((0, 0), (None, 2))]))

    def test_another_answer(self):
        sheet = [((0, 0, 0), (1, 2, 1)), ((0, 0, 0, 0), (1, None, 2, 3)), ((0,), (7,))]
        self.assertEqual(disagrees(ring([1, 2]), sheet), (1, 2))
        self.assertEqual(disagrees(ring([1, 2]), sheet[:1] + sheet[2:]), (1, 0))
        self.assertEqual(disagrees(ring([1, 3]), sheet), (0, 1))
        self.assertEqual(disagrees(ring([0, 2]), sheet), (0, 0))

    def test_no_answer(self):
        self.assertEqual(disagrees(ring([1, None]), [((0, 0), (1, None)), ((0, 0), (1, 0))]), (1, 1))
        self.assertEqual(disagrees(ring([None]), [((0,), (0,))]), (0, 0))

    def test_no_room_to_be_asked(self):
        machine = countdown(3)
        self.assertIsNone(disagrees(machine, [((0, 0, 0), (0, 0, 1))]))
        self.assertEqual(disagrees(machine, [((0, 0, 0, 0), (0, 0, 1, 1))]), (0, 3))
        self.assertEqual(disagrees(machine, [((0, 0, 0, 0, 0), (0, None, None, 1, 1))]), (0, 3))

    def test_rows_of_unknown_answers_must_be_let(self):
        machine = countdown(3)
        self.assertIsNone(disagrees(machine, [long_row((0, 0, 0))]))
        self.assertEqual(disagrees(machine, [long_row((0,)), long_row((0, 0, 0, 0, 0))]), (1, 3))

    def test_row_ahead_of_place(self):
        sheet = [((0, 0, 0), (None, None, 6)), ((0,), (6,))]
        self.assertEqual(disagrees(ring([0]), sheet), (0, 2))
        self.assertEqual(disagrees(ring([0]), sheet[::-1]), (0, 0))

    def test_last_place_ahead_of_nothing(self):
        # The cell of the last ask may go nowhere.
        self.assertIsNone(disagrees((1, (((None, 4),),)), [((0,), (4,))]))

    def test_drawn_machines(self):
        draw = random.Random(102)
        ends = {None: 0, "found": 0}
        for k in range(600):
            machine = draw_machine(draw, draw.randint(1, 6), draw.randint(1, 3))
            if draw.random() < 0.5:
                sheet = draw_sheet(draw, machine[0], 4, 6, 2, 0.7)
            else:
                sheet = draw_sheet_of(draw, machine, 24, 12)
            found = brutesheets.first_disagreeing(machine, sheet)
            self.assertEqual(disagrees(machine, sheet), found)
            ends[None if found is None else "found"] += 1
        self.assertTrue(all(many > 100 for many in ends.values()), ends)

    def test_a_sheet_that_clashes_agrees_with_no_machine(self):
        sheet = [((0,), (1,)), ((0,), (2,))]
        self.assertEqual(disagrees(ring([1]), sheet), (1, 0))
        self.assertEqual(disagrees(ring([2]), sheet), (0, 0))
        self.assertEqual(disagrees(ring([3]), sheet), (0, 0))

    def test_just_where_the_machine_does_not_stand_in_the_trees_place(self):
        draw = random.Random(103)
        ends = {"yes": 0, "no": 0}
        for k in range(600):
            asks = draw.randint(1, 3)
            sheet = draw_sheet(draw, asks, 4, 5, 2, 0.6)
            try:
                tree = tree_of(asks, sheet)
            except (Clash, TooMany):
                continue
            for machine in (drawn_likeness(draw, tree), draw_machine(draw, draw.randint(1, 5), asks), tree):
                verdict = stands(tree, machine)[0]
                self.assertEqual(disagrees(machine, sheet) is None, verdict == "yes")
                ends[verdict] += 1
        self.assertTrue(all(many > 100 for many in ends.values()), ends)


class LeastOfTest(unittest.TestCase):

    def test_written_out(self):
        self.assertEqual(least_of(2, []), ((2, (((None, None), (None, None)),)), [(0,)], None))
        other, lots, paper = least_of(1, [((0, 0, 0, 0), (1, 2, 1, 2))])
        self.assertEqual((other, lots), (ring([1, 2]), [(0, 2), (1, 3)]))
        self.assertTrue(needs(tree_of(1, [((0, 0, 0, 0), (1, 2, 1, 2))]), 2, paper))

    def test_as_least_of_the_tree(self):
        draw = random.Random(104)
        ends = {"told": 0, "refused": 0}
        for k in range(200):
            asks = draw.randint(1, 3)
            hidden = draw_machine(draw, draw.randint(1, 5), asks, 0, 0, 3)
            sheet = draw_sheet_of(draw, hidden, draw.choice((6, 20)), draw.choice((4, 6, 12)), 0.1)
            try:
                told = least_of(asks, sheet)
            except TooMany:
                ends["refused"] += 1
                self.assertTrue(self.is_refused(asks, sheet))
                continue
            ends["told"] += 1
            tree = tree_of(asks, sheet)
            other, lots, paper = told
            self.assertEqual((other, lots), least(tree)[:2])
            self.assertIsNone(disagrees(other, sheet))
            self.assertEqual(paper is None, len(lots) == 1)
            if paper is not None:
                self.assertTrue(needs(tree, len(lots), paper))
        self.assertTrue(all(many > 20 for many in ends.values()), ends)

    def is_refused(self, asks, sheet):
        """Whether the tree has too many rooms, or its least machine too many tries."""
        if len(brutesheets.beginnings(sheet)) > 24:
            return True
        with self.assertRaises(brute.TooLong):
            brute.least(brutesheets.tree_of(asks, sheet))
        return True

    def test_none_of_fewer_rooms_agrees(self):
        draw = random.Random(105)
        fewer = {(asks, many): list(brute.all_machines(asks, many, 2)) for asks, many in ((1, 1), (2, 1), (1, 2))}
        looked = 0
        for k in range(120):
            asks = draw.randint(1, 2)
            hidden = draw_machine(draw, draw.randint(2, 4), asks, 0, 0)
            sheet = draw_sheet_of(draw, hidden, 3, 8, 0.1)
            try:
                lots = least_of(asks, sheet)[1]
            except TooMany:
                continue
            for other in fewer.get((asks, len(lots) - 1), []):
                self.assertIsNotNone(disagrees(other, sheet))
                looked += 1
        self.assertGreater(looked, 1000)

    def test_refused_as_the_tree_then_as_least(self):
        clash = [((0, 0), (1, 1)), ((0,), (2,))]
        with self.assertRaises(Clash) as caught:
            least_of(1, clash)
        self.assertEqual((caught.exception.row, caught.exception.place), (1, 0))
        # Eleven noughts and then 1: all rooms of the tree part, too many tries.
        sheet = [((0,) * 12, (0,) * 11 + (1,)), ((0,) * 12, (0,) * 11 + (1,))]
        self.assertEqual(tree_of(1, sheet), countdown(12))
        with self.assertRaises(TooMany):
            least_of(1, sheet)
        self.assertEqual(least_of(1, [((0,) * 8, (0,) * 7 + (1,))])[0], countdown(8))

    def test_asks_that_no_row_has(self):
        self.assertEqual(least_of(4, [((0,), (3,))])[0], (4, (((None, 3),) + ((None, None),) * 3,)))
        self.assertEqual(disagrees(SMALL, [((1, 1), (None, None))]), None)
