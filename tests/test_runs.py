"""[5] rows gone from a room, and [6] the rooms reached."""

import random
import unittest

from opencells.runs import lets, reached, run
from tests import brute
from tests.samples import SMALL, draw_machine, draw_row, drawn, ring


class RunTest(unittest.TestCase):

    def test_row_without_asks(self):
        for room in range(3):
            self.assertEqual(run(SMALL, room, ()), ([], room))
            self.assertIs(lets(SMALL, room, ()), True)

    def test_row_to_a_known_room(self):
        self.assertEqual(run(SMALL, 0, (1, 0, 0)), ([None, 0, 1], 2))
        self.assertIs(lets(SMALL, 0, (1, 0, 0)), True)
        self.assertEqual(run(SMALL, 2, (0, 0)), ([0, 0], 1))

    def test_row_that_ends_at_an_open_cell(self):
        self.assertEqual(run(SMALL, 0, (0, 1)), ([0, 3], None))
        self.assertIs(lets(SMALL, 0, (0, 1)), True)
        self.assertEqual(run(SMALL, 2, (1,)), ([None], None))
        self.assertIs(lets(SMALL, 2, (1,)), True)

    def test_row_that_comes_to_an_open_cell_in_the_middle(self):
        self.assertEqual(run(SMALL, 0, (0, 1, 0)), ([0, 3], None))
        self.assertIs(lets(SMALL, 0, (0, 1, 0)), False)
        self.assertEqual(run(SMALL, 2, (1, 1, 1, 1)), ([None], None))
        self.assertIs(lets(SMALL, 2, (1, 1, 1, 1)), False)

    def test_long_rows(self):
        machine = ring([3, None, 5])
        for many in (60, 61, 200, 700):
            answers = ([3, None, 5] * many)[:many]
            self.assertEqual(run(machine, 0, (0,) * many), (answers, many % 3))
            self.assertIs(lets(machine, 0, (0,) * many), True)

    def test_long_row_that_is_not_let_at_its_end(self):
        chain = (1, tuple(((room + 1 if room < 23 else None, room % 8),) for room in range(24)))
        said = [room % 8 for room in range(24)]
        self.assertEqual(run(chain, 0, (0,) * 24), (said, None))
        self.assertIs(lets(chain, 0, (0,) * 24), True)
        self.assertEqual(run(chain, 0, (0,) * 25), (said, None))
        self.assertIs(lets(chain, 0, (0,) * 25), False)
        self.assertEqual(run(chain, 0, (0,) * 23), (said[:23], 23))

    def test_drawn_rows(self):
        draw = random.Random(5)
        for machine in drawn(5, 150, 6, 4, 8):
            for k in range(8):
                room = draw.randrange(len(machine[1]))
                row = draw_row(draw, machine[0], 9)
                self.assertEqual(run(machine, room, row), brute.go(machine, room, row))
                self.assertIs(lets(machine, room, row), brute.is_let(machine, room, row))

    def test_kinds(self):
        told = run(SMALL, 0, (0,))
        self.assertIsInstance(told, tuple)
        self.assertIsInstance(told[0], list)


class ReachedTest(unittest.TestCase):

    def test_room_zero_alone(self):
        self.assertEqual(reached((1, (((None, 0),),))), [(0, ())])
        self.assertEqual(reached((1, (((0, 0),), ((0, 1),)))), [(0, ())])

    def test_by_room_in_the_list_then_by_ask(self):
        cell = (None, None)
        machine = (2, (((3, 0), (1, 0)), ((4, 0), (2, 0)), (cell, cell), ((0, 0), (5, 0)), (cell, cell), (cell, (6, 0)),
                       (cell, cell), ((0, 0), (0, 0))))
        self.assertEqual(reached(machine), [(0, ()), (3, (0,)), (1, (1,)), (5, (0, 1)), (4, (1, 0)), (2, (1, 1)),
                                            (6, (0, 1, 1))])

    def test_first_row_of_several(self):
        machine = (3, (((0, 0), (1, 0), (1, 0)), ((None, 0), (1, 0), (2, 0)), ((0, 0), (0, 0), (0, 0))))
        self.assertEqual(reached(machine), [(0, ()), (1, (1,)), (2, (1, 2))])

    def test_rooms_in_one_row(self):
        for many in (2, 12, 24):
            self.assertEqual(reached(ring([None] * many)), [(room, (0,) * room) for room in range(many)])

    def test_drawn_machines(self):
        draw = random.Random(6)
        for k in range(100):
            machine = draw_machine(draw, draw.randint(1, 24), draw.randint(1, 4), open_goes=draw.choice((0.1, 0.5, 0.8)))
            told = reached(machine)
            # Each room stands there with the first row that leads to it, and the list is in the order of these rows.
            self.assertEqual(sorted(told, key=lambda pair: (len(pair[1]), pair[1])), told)
            self.assertEqual(len({room for room, row in told}), len(told))
            for room, row in told:
                self.assertEqual(brute.go(machine, 0, row)[1], room)
            behind = {goes for room, row in told for goes, says in machine[1][room]} - {None}
            self.assertEqual(behind | {0}, {room for room, row in told})

    def test_first_rows_of_small_machines(self):
        for machine in drawn(7, 80, 5, 2):
            first = {0: ()}
            for row in brute.rows_to(machine[0], 5):
                room = brute.go(machine, 0, row)[1]
                if room is not None:
                    first.setdefault(room, row)
            self.assertEqual(reached(machine), list(first.items()))
