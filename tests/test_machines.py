"""[4] what is a machine."""

import random
import unittest

from opencells.machines import is_machine
from tests.samples import FULL, ODD_THINGS, SMALL, draw_machine, nested


def one_cell(goes, says):
    """A machine of one room and one ask, with this cell."""
    return (1, (((goes, says),),))


class MachinesTest(unittest.TestCase):

    def assert_none(self, thing):
        self.assertIs(is_machine(thing), False, thing)

    def test_machines_of_all_sizes(self):
        draw = random.Random(4)
        for asks in range(1, 5):
            for rooms in range(1, 25):
                machine = draw_machine(draw, rooms, asks, answers=8)
                self.assertIs(is_machine(machine), True, machine)

    def test_open_and_full_cells(self):
        for machine in (SMALL, FULL, one_cell(None, None), one_cell(0, None), one_cell(None, 0), one_cell(0, 7)):
            self.assertIs(is_machine(machine), True, machine)

    def test_room_that_no_row_leads_to(self):
        self.assertIs(is_machine((1, (((0, 1),), ((None, 2),)))), True)

    def test_numbers_just_beyond_the_bounds(self):
        cell = (None, None)
        self.assert_none((0, ((),)))
        self.assert_none((0, ()))
        self.assert_none((-1, ((cell,),)))
        self.assert_none((5, ((cell,) * 5,)))
        for thing in (one_cell(1, 0), one_cell(-1, 0), one_cell(0, 8), one_cell(0, -1), one_cell(10 ** 50, 0)):
            self.assert_none(thing)
        self.assert_none((2, (((0, 0), (1, 0)), ((2, 0), (0, 0)))))

    def test_no_room_and_too_many(self):
        self.assert_none((1, ()))
        self.assertIs(is_machine((1, (((23, 7),),) * 24)), True)
        self.assert_none((1, (((0, 0),),) * 25))
        self.assert_none((1, (((24, 0),),) * 24))

    def test_truths_are_no_numbers(self):
        self.assert_none((True, (((0, 0),),)))
        for truth in (True, False):
            self.assert_none((1, (((truth, 0),), ((0, 0),))))
            self.assert_none((1, (((0, truth),), ((0, 0),))))
            self.assert_none((1, (((0, 0),), ((truth, None),))))

    def test_texts_bytes_and_none_are_no_numbers(self):
        for odd in ("0", b"0", (0,), [0], "None", (), {}, object()):
            self.assert_none(one_cell(odd, 0))
            self.assert_none(one_cell(0, odd))
            self.assert_none((odd, (((0, 0),),)))
        self.assert_none((None, (((0, 0),),)))

    def test_other_things_in_the_place_of_tuples(self):
        self.assert_none([1, (((0, 0),),)])
        self.assert_none((1, [((0, 0),)]))
        self.assert_none((1, ([(0, 0)],)))
        self.assert_none((1, (([0, 0],),)))
        self.assert_none((1, {0: ((0, 0),)}))
        self.assert_none((1, ({(0, 0): (0, 0)},)))
        self.assert_none((1, (({0: 0, 1: 0},),)))
        self.assert_none({1: (((0, 0),),), 2: 0})
        self.assert_none((1, "0"))
        self.assert_none((1, ("0",)))
        self.assert_none((1, (("00",),)))
        self.assert_none((1, (None,)))
        self.assert_none((1, ((None,),)))
        self.assert_none((1, None))

    def test_one_part_fewer_or_more(self):
        self.assert_none((1,))
        self.assert_none((1, (((0, 0),),), None))
        self.assert_none((2, (((0, 0),),)))
        self.assert_none((1, (((0, 0), (0, 0)),)))
        self.assert_none((1, (((0, 0),), ())))
        self.assert_none((1, (((0,),),)))
        self.assert_none((1, (((0, 0, 0),),)))
        self.assert_none((2, (((0, 0), (0, 0)), ((0, 0),))))

    def test_anything(self):
        for thing in ODD_THINGS:
            self.assert_none(thing)
            self.assert_none((1, thing))
            self.assert_none((1, (thing,)))
            self.assert_none((1, ((thing,),)) if thing != (0, 0) else None)
            self.assert_none((thing, (((0, 0),),)) if thing is True or thing != 1 else None)

    def test_deep_things(self):
        for deep in (1, 2, 3, 4, 5, 50, 120):
            self.assert_none(nested(deep, lambda inner: (inner,)))
            self.assert_none(nested(deep, lambda inner: (1, inner)))
            self.assert_none(nested(deep, lambda inner: [1, inner]))
