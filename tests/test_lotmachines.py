"""[10] the faults of lists of lots, and [11] the machines that closed ones make."""

import itertools
import random
import unittest

from opencells.errors import CellError, NotClosed
from opencells.lotmachines import lots_fault, made
from tests import brute
from tests.samples import ODD_THINGS, SMALL, drawn, two_rings

SHAPE = ("shape",)

# Rooms 0 and 1 lead to 2 and 3, these lead back; 0 and 1 part, 2 and 3 part; all others fit.
CROSS = (2, (((2, 1), (None, None)), ((3, 2), (None, None)), ((0, None), (None, 3)), ((None, None), (1, 4))))


def brute_fault(machine, lots):
    """The fault of a list of lots that has the shape of one."""
    parted = brute.part_by_sweeps(machine)
    faults = [("parted", i) + pair for i, lot in enumerate(lots)
              for pair in itertools.combinations(lot, 2) if pair in parted]
    if 0 not in lots[0]:
        faults.append(("begin",))
    for i, lot in enumerate(lots):
        for ask in range(machine[0]):
            behind = {machine[1][room][ask][0] for room in lot} - {None}
            if not any(behind <= set(lot) for lot in lots):
                faults.append(("behind", i, ask))
    return faults[0] if faults else None


def draw_lots(draw, machine):
    """A drawn list of rising tuples of rooms, more often of lots that fit, sometimes closed."""
    rooms = range(len(machine[1]))
    pool = brute.greatest(machine) + [(room,) for room in rooms]
    lots = [draw.choice(pool) for k in range(draw.randint(1, 8))]
    if draw.random() < 0.2:
        lots[draw.randrange(len(lots))] = tuple(sorted(draw.sample(rooms, draw.randint(1, len(rooms)))))
    if draw.random() < 0.7:
        lots = sorted(lots)
    return lots


class FaultTest(unittest.TestCase):

    def assert_fault(self, machine, thing, fault):
        told = lots_fault(machine, thing)
        self.assertEqual(told, fault, thing)
        self.assertIsInstance(told, tuple)
        with self.assertRaises(NotClosed) as caught:
            made(machine, thing)
        self.assertEqual(caught.exception.fault, fault)
        self.assertIsInstance(caught.exception, CellError)

    def test_no_list(self):
        for thing in ODD_THINGS:
            self.assert_fault(SMALL, thing, SHAPE)
        self.assert_fault(SMALL, ((0,),), SHAPE)
        self.assert_fault(SMALL, {(0,): True}, SHAPE)

    def test_how_many_lots(self):
        machine = (1, (((0, None),),))
        self.assert_fault(machine, [], SHAPE)
        self.assertIsNone(lots_fault(machine, [(0,)] * 24))
        self.assert_fault(machine, [(0,)] * 25, SHAPE)
        self.assert_fault(machine, [(0,)] * 600, SHAPE)

    def test_what_is_no_rising_tuple_of_rooms(self):
        machine = (1, (((0, None),),) * 3)
        odd_lots = [
            [0], [0, 1], (), (1, 0), (0, 0), (0, 1, 1), (0, 2, 1), (3,), (0, 3), (-1,), (-1, 0), (True,), (False,),
            (False, True), (0, True), (None,), (0, None), ("0",), "0", "012", b"\x00", ((0,),), (0, (1,)), ([0],),
            None, 0, True, {0: 0}, {0}, (0, 1, 2, 3), tuple(range(600)), (10 ** 30,), object(),
        ]
        for lot in odd_lots:
            self.assert_fault(machine, [lot], SHAPE)
            self.assert_fault(machine, [(0,), lot], SHAPE)
            self.assert_fault(machine, [lot, (0,)], SHAPE)
        for thing in ODD_THINGS:
            if thing != (0,):
                self.assert_fault(machine, [(0, 1, 2), thing], SHAPE)

    def test_parted(self):
        self.assert_fault(CROSS, [(0, 1, 2, 3)], ("parted", 0, 0, 1))
        self.assert_fault(CROSS, [(0, 2, 3)], ("parted", 0, 2, 3))
        self.assert_fault(CROSS, [(0,), (1,), (0, 2, 3), (0, 1)], ("parted", 2, 2, 3))
        # 0 parts from 2, and 1 from 3: the first two by one, then by other.
        machine = (1, (((0, 1),), ((0, None),), ((0, 2),), ((0, None),), ((0, 2),)))
        self.assert_fault(machine, [(0, 1, 2, 3, 4)], ("parted", 0, 0, 2))
        self.assert_fault(machine, [(0, 1, 3, 4)], ("parted", 0, 0, 4))
        self.assert_fault(two_rings(11, 13), [(0, 11)], ("parted", 0, 0, 11))

    def test_begin(self):
        self.assert_fault(CROSS, [(1,), (0,)], ("begin",))
        self.assert_fault(CROSS, [(1, 2), (0, 3)], ("begin",))

    def test_behind(self):
        self.assert_fault(CROSS, [(0,)], ("behind", 0, 0))
        self.assert_fault(CROSS, [(0,), (2,), (3,)], ("behind", 2, 1))
        self.assert_fault(CROSS, [(0,), (2,), (1,)], ("behind", 2, 0))
        # The followers 1 and 2 stand in lots, but not in one.
        machine = (1, (((1, None),), ((2, None),), ((None, None),)))
        self.assert_fault(machine, [(0, 1), (2,)], ("behind", 0, 0))
        self.assertIsNone(lots_fault(machine, [(0, 1), (1, 2)]))

    def test_which_goes_first(self):
        self.assert_fault(CROSS, [(0, 1), (4,)], SHAPE)
        self.assert_fault(CROSS, [(1,), (2, 3)], ("parted", 1, 2, 3))
        self.assert_fault(CROSS, [(0,), (2, 3)], ("parted", 1, 2, 3))
        self.assert_fault(CROSS, [(1,)], ("begin",))
        # Lot 0 lacks room 2 by ask 1, lot 1 by ask 0: by lot, then by ask.
        machine = (2, (((None, 0), (2, 0)), ((2, 0), (2, 0)), ((2, 0), (2, 0))))
        self.assert_fault(machine, [(0,), (1,)], ("behind", 0, 1))
        both = (2, (((1, 0), (2, 0)), ((1, 0), (2, 0)), ((2, 0), (2, 0))))
        self.assert_fault(both, [(0,)], ("behind", 0, 0))
        self.assert_fault(both, [(0, 1), (1,)], ("behind", 0, 1))

    def test_closed(self):
        for lots in ([(0,), (1,), (2,), (3,)], [(0,), (2,)], [(0, 2), (0, 2)], [(0, 2)], [(0, 3), (2,), (1,), (3,)]):
            self.assertIsNone(lots_fault(CROSS, lots), lots)
        # Followers open throughout lie wherever it is.
        self.assertIsNone(lots_fault((2, (((None, 0), (None, 1)),)), [(0,)]))

    def test_alike_lots(self):
        self.assertIsNone(lots_fault(CROSS, [(0,), (0,), (2,), (2,), (2,)]))

    def test_drawn_lists(self):
        draw = random.Random(11)
        closed = 0
        for machine in drawn(15, 250, 5, 2):
            for k in range(8):
                lots = draw_lots(draw, machine)
                fault = brute_fault(machine, lots)
                self.assertEqual(lots_fault(machine, lots), fault, (machine, lots))
                closed += fault is None
        self.assertGreater(closed, 100)


class MadeTest(unittest.TestCase):

    def test_each_room_a_lot(self):
        for machine in [SMALL, CROSS] + drawn(16, 40, 24, 4, 8):
            self.assertEqual(made(machine, [(room,) for room in range(len(machine[1]))]), machine)

    def test_lots_in_their_order(self):
        self.assertEqual(made(CROSS, [(0,), (2,)]), (2, (((1, 1), (None, None)), ((0, None), (None, 3)))))
        self.assertEqual(made(CROSS, [(0, 2)]), (2, (((0, 1), (None, 3)),)))

    def test_first_lot_in_which_all_followers_lie(self):
        machine = (1, (((1, None),), ((2, None),), ((None, None),)))
        self.assertEqual(made(machine, [(0, 1), (2,), (1, 2), (0, 1, 2)]),
                         (1, (((2, None),), ((None, None),), ((1, None),), ((2, None),))))
        self.assertEqual(made(machine, [(0, 1, 2), (1, 2)])[1][0][0], (0, None))

    def test_alike_lots_have_rooms_each(self):
        self.assertEqual(made(CROSS, [(0, 2), (0, 2)]), (2, (((0, 1), (None, 3)), ((0, 1), (None, 3)))))

    def test_answer_of_any_room_of_the_lot(self):
        machine = (1, (((None, None),), ((None, None),), ((None, 0),)))
        self.assertEqual(made(machine, [(0, 1, 2)]), (1, (((None, 0),),)))
        self.assertEqual(made(machine, [(0, 1)]), (1, (((None, None),),)))
        self.assertEqual(made(machine, [(0, 2), (2,)]), (1, (((None, 0),), ((None, 0),))))

    def test_most_rooms(self):
        machine = (1, (((0, None),),))
        self.assertEqual(made(machine, [(0,)] * 24), (1, (((0, None),),) * 24))

    def test_drawn_lists(self):
        draw = random.Random(12)
        for machine in drawn(17, 250, 5, 2):
            for k in range(8):
                lots = draw_lots(draw, machine)
                if brute_fault(machine, lots) is not None:
                    continue
                asks, rooms = made(machine, lots)
                self.assertEqual((asks, len(rooms)), (machine[0], len(lots)))
                for lot, room in zip(lots, rooms):
                    for ask, (goes, says) in enumerate(room):
                        behind = {machine[1][at][ask][0] for at in lot} - {None}
                        homes = [t for t, other in enumerate(lots) if behind <= set(other)]
                        self.assertEqual(goes, homes[0] if behind else None)
                        self.assertEqual({says} - {None}, {machine[1][at][ask][1] for at in lot} - {None})
