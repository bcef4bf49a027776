"""[12], [13], [14]: machines that stand in another one's place, and pairs that show it."""

import random
import unittest

from opencells.errors import Unlike
from opencells.standing import pairs_fault, stands
from tests import brute
from tests.samples import FULL, ODD_THINGS, SMALL, draw_machine, drawn, drawn_likeness, ring


def chain(says, last=None):
    """One ask, leading on room by room; the last one leads to last."""
    many = len(says)
    return (1, tuple(((room + 1 if room < many - 1 else last, says[room]),) for room in range(many)))


def brute_pairs_fault(machine, other, pairs):
    """The fault of a list of pairs that has the shape of one."""
    if (0, 0) not in pairs:
        return ("begin",)
    for k, (one, two) in enumerate(pairs):
        for ask in range(machine[0]):
            (goes, says), (other_goes, other_says) = machine[1][one][ask], other[1][two][ask]
            if says is not None and says != other_says:
                return ("says", k, ask)
            if goes is not None and other_goes is None:
                return ("goes", k, ask)
            if goes is not None and (goes, other_goes) not in pairs:
                return ("behind", k, ask)
    return None


class StandsTest(unittest.TestCase):

    def test_in_its_own_place(self):
        self.assertEqual(stands(SMALL, SMALL), ("yes", [(0, 0), (1, 1), (2, 2)]))
        self.assertEqual(stands(FULL, FULL), ("yes", [(0, 0), (1, 1), (2, 2)]))
        for machine in drawn(18, 60, 24, 4):
            told = stands(machine, machine)
            self.assertEqual(told[0], "yes")
            self.assertTrue(all(one == two for one, two in told[1]))

    def test_what_is_not_reached_is_not_told(self):
        machine = (1, (((0, 1),), ((1, 2),)))
        self.assertEqual(stands(machine, machine), ("yes", [(0, 0)]))

    def test_another_answer_or_none(self):
        self.assertEqual(stands(chain([3, 1]), chain([3, 2])), ("no", (0, 0)))
        self.assertEqual(stands(chain([3, 1]), chain([3, None])), ("no", (0, 0)))
        self.assertEqual(stands(chain([0]), chain([None])), ("no", (0,)))
        self.assertEqual(stands(chain([0]), chain([1])), ("no", (0,)))

    def test_open_answers_ask_for_nothing(self):
        self.assertEqual(stands(chain([None, 1]), chain([5, 1])), ("yes", [(0, 0), (1, 1)]))
        self.assertEqual(stands(chain([None, None]), chain([None, None])), ("yes", [(0, 0), (1, 1)]))

    def test_a_known_room_asks_for_one(self):
        self.assertEqual(stands(chain([1, 1], 1), chain([1, 1])), ("no", (0, 0)))
        self.assertEqual(stands(chain([None], 0), chain([None])), ("no", (0,)))
        # So also where the first says nothing there, and nothing behind it.
        self.assertEqual(stands(chain([1, None]), chain([1])), ("no", (0,)))

    def test_an_open_way_asks_for_nothing(self):
        self.assertEqual(stands(chain([1, 1]), chain([1, 1], 1)), ("yes", [(0, 0), (1, 1)]))
        # Behind an open way the other one may say and do whatever it likes.
        self.assertEqual(stands(chain([1]), chain([1, 7, 7])), ("yes", [(0, 0)]))
        self.assertEqual(stands((1, (((None, None),),)), (1, (((None, None),),))), ("yes", [(0, 0)]))

    def test_last_cell_open_but_said(self):
        self.assertEqual(stands(chain([1, 2]), chain([1, 2])), ("yes", [(0, 0), (1, 1)]))
        self.assertEqual(stands(chain([1, 2]), chain([1, 3], 0)), ("no", (0, 0)))

    def test_shorter_goes_ahead_of_first_as_tuple(self):
        machine = (2, (((1, 0), (0, 1)), ((1, 1), (None, None))))
        other = (2, (((1, 0), (0, 2)), ((1, 2), (None, None))))
        self.assertEqual(stands(machine, other), ("no", (1,)))

    def test_first_as_tuple_of_those_as_short(self):
        open_cell = (None, None)
        machine = (2, (((1, 0), (2, 0)), (open_cell, (None, 1)), ((None, 1), open_cell)))
        other = (2, (((1, 0), (2, 0)), (open_cell, (None, 2)), ((None, 2), open_cell)))
        self.assertEqual(stands(machine, other), ("no", (0, 1)))

    def test_one_room_for_many(self):
        self.assertEqual(stands(ring([1, None, 1]), ring([1])), ("yes", [(0, 0), (1, 0), (2, 0)]))
        self.assertEqual(stands(ring([1]), ring([1, 1, 1])), ("yes", [(0, 0), (0, 1), (0, 2)]))

    def test_pairs_of_rings(self):
        pairs = stands(ring([None] * 4), ring([None] * 6))
        self.assertEqual(pairs, ("yes", [(one, two) for one in range(4) for two in range(6) if (one - two) % 2 == 0]))
        self.assertEqual(len(stands(ring([1] * 23), ring([1] * 24))[1]), 23 * 24)

    def test_rows_of_some_hundred_asks(self):
        for one, two in ((11, 13), (23, 24), (19, 24), (24, 23)):
            machine = ring([None] * (one - 1) + [1])
            other = ring([1] * (two - 1) + [0])
            self.assertEqual(stands(machine, other), ("no", (0,) * (one * two)))
            leading = ring([1] * two)
            self.assertEqual(stands(machine, leading)[0], "yes")

    def test_unlike_counts_of_asks(self):
        for one in range(1, 5):
            for two in range(1, 5):
                machine, other = (one, (((0, 0),) * one,)), (two, (((0, 0),) * two,))
                if one == two:
                    self.assertEqual(stands(machine, other), ("yes", [(0, 0)]))
                    self.assertIsNone(pairs_fault(machine, other, [(0, 0)]))
                    continue
                with self.assertRaises(Unlike):
                    stands(machine, other)
                for thing in ODD_THINGS:
                    with self.assertRaises(Unlike):
                        pairs_fault(machine, other, thing)

    def test_drawn_machines(self):
        draw = random.Random(13)
        told_yes = 0
        for machine in drawn(19, 350, 3, 2):
            if draw.random() < 0.7:
                other = drawn_likeness(draw, machine)
            else:
                other = draw_machine(draw, draw.randint(1, 3), machine[0], 0.2, 0.2)
            row = brute.first_failing(machine, other)
            if row is None:
                self.assertEqual(stands(machine, other), ("yes", sorted(brute.pairs_come_to(machine, other))))
                told_yes += 1
            else:
                self.assertEqual(stands(machine, other), ("no", row))
        self.assertTrue(60 < told_yes < 290)

    def test_kinds(self):
        self.assertIsInstance(stands(SMALL, SMALL), tuple)
        self.assertIsInstance(stands(SMALL, SMALL)[1], list)
        self.assertIsInstance(stands(chain([0]), chain([1]))[1], tuple)


class PairsFaultTest(unittest.TestCase):

    def test_shape(self):
        machine, other = ring([1, 1]), ring([1])
        for thing in ODD_THINGS:
            if thing not in ([], [(0, 0)]):
                self.assertEqual(pairs_fault(machine, other, thing), ("shape",), thing)
        odd_pairs = [
            (0,), (0, 0, 0), (), [0, 0], {0: 0}, "00", b"00", None, 0, True, (True, 0), (0, False), (None, 0),
            (0, None), ("0", 0), (0, "0"), (2, 0), (0, 1), (-1, 0), (0, -1), ((0,), 0), (0, (0,)), (0, 10 ** 30),
        ]
        for pair in odd_pairs:
            self.assertEqual(pairs_fault(machine, other, [pair]), ("shape",), pair)
            self.assertEqual(pairs_fault(machine, other, [(0, 0), (1, 0), pair]), ("shape",), pair)
            self.assertEqual(pairs_fault(machine, other, [pair, (0, 0), (1, 0)]), ("shape",), pair)

    def test_turned_about(self):
        self.assertIsNone(pairs_fault(ring([1, 1]), ring([1]), [(0, 0), (1, 0)]))
        self.assertEqual(pairs_fault(ring([1, 1]), ring([1]), [(0, 0), (0, 1)]), ("shape",))
        self.assertIsNone(pairs_fault(ring([1]), ring([1, 1]), [(0, 0), (0, 1)]))
        self.assertEqual(pairs_fault(ring([1]), ring([1, 1]), [(0, 0), (1, 0)]), ("shape",))

    def test_no_list(self):
        self.assertEqual(pairs_fault(ring([1]), ring([1]), ((0, 0),)), ("shape",))
        self.assertEqual(pairs_fault(ring([1]), ring([1]), {(0, 0): True}), ("shape",))

    def test_begin(self):
        self.assertEqual(pairs_fault(ring([1, 1]), ring([1]), []), ("begin",))
        self.assertEqual(pairs_fault(ring([1, 1]), ring([1]), [(1, 0)]), ("begin",))
        self.assertEqual(pairs_fault(ring([1, 1]), ring([2]), [(1, 0)]), ("begin",))

    def test_says(self):
        self.assertEqual(pairs_fault(ring([0]), ring([1]), [(0, 0)]), ("says", 0, 0))
        self.assertEqual(pairs_fault(ring([0]), ring([None]), [(0, 0)]), ("says", 0, 0))
        self.assertIsNone(pairs_fault(ring([None]), ring([1]), [(0, 0)]))

    def test_goes(self):
        self.assertEqual(pairs_fault(chain([0], 0), chain([0]), [(0, 0)]), ("goes", 0, 0))
        self.assertIsNone(pairs_fault(chain([0]), chain([0], 0), [(0, 0)]))
        self.assertIsNone(pairs_fault(chain([0]), chain([0]), [(0, 0)]))

    def test_behind(self):
        self.assertEqual(pairs_fault(ring([1, 1]), ring([1]), [(0, 0)]), ("behind", 0, 0))
        self.assertEqual(pairs_fault(ring([1]), ring([1, 1]), [(0, 0)]), ("behind", 0, 0))
        self.assertEqual(pairs_fault(ring([1] * 3), ring([1] * 3), [(0, 0), (1, 1), (1, 2)]), ("behind", 1, 0))

    def test_which_goes_first_at_one_pair_and_ask(self):
        self.assertEqual(pairs_fault(chain([0, 0]), chain([1]), [(0, 0)]), ("says", 0, 0))
        self.assertEqual(pairs_fault(chain([0, 0]), chain([0]), [(0, 0)]), ("goes", 0, 0))
        self.assertEqual(pairs_fault(chain([0, 0]), chain([1, 1]), [(0, 0)]), ("says", 0, 0))

    def test_which_goes_first_by_pair_then_by_ask(self):
        machine = (2, (((1, 0), (0, 0)), ((1, 0), (1, 0))))
        other = (2, (((1, 0), (0, 5)), ((1, 5), (None, 0))))
        self.assertEqual(pairs_fault(machine, other, [(0, 0)]), ("behind", 0, 0))
        self.assertEqual(pairs_fault(machine, other, [(0, 0), (1, 1)]), ("says", 0, 1))
        self.assertEqual(pairs_fault(machine, other, [(1, 1), (0, 0)]), ("says", 0, 0))
        self.assertEqual(pairs_fault(machine, other, [(1, 0), (0, 0), (1, 1)]), ("says", 0, 1))

    def test_any_order_and_some_twice(self):
        machine, other = ring([1] * 4), ring([1] * 2)
        pairs = [(0, 0), (1, 1), (2, 0), (3, 1)]
        self.assertIsNone(pairs_fault(machine, other, pairs))
        self.assertIsNone(pairs_fault(machine, other, pairs[::-1]))
        self.assertIsNone(pairs_fault(machine, other, pairs[::-1] + pairs * 2))
        self.assertIsNone(pairs_fault(machine, other, [(one, two) for one in range(4) for two in range(2)]))

    def test_more_pairs_than_needed_can_fail(self):
        machine, other = ring([1, None]), ring([1, 2])
        self.assertIsNone(pairs_fault(machine, other, [(0, 0), (1, 1)]))
        self.assertEqual(pairs_fault(machine, other, [(0, 0), (1, 1), (0, 1)]), ("says", 2, 0))

    def test_many_pairs(self):
        machine, other = ring([1] * 24), ring([1] * 24)
        self.assertIsNone(pairs_fault(machine, other, [(room, room) for room in range(24)] * 800))
        self.assertEqual(pairs_fault(machine, other, [(room, room) for room in range(23)] * 800), ("behind", 22, 0))

    def test_drawn_pairs(self):
        draw = random.Random(14)
        for machine in drawn(20, 300, 4, 3):
            other = drawn_likeness(draw, machine)
            pairs = [(room, room) for room in range(len(machine[1])) if draw.random() < 0.9]
            pairs += [(draw.randrange(len(machine[1])), draw.randrange(len(other[1]))) for k in range(draw.randint(0, 3))]
            draw.shuffle(pairs)
            self.assertEqual(pairs_fault(machine, other, pairs), brute_pairs_fault(machine, other, pairs))

    def test_pairs_that_are_told_show_it(self):
        draw = random.Random(15)
        for machine in drawn(21, 200, 8, 3):
            other = drawn_likeness(draw, machine)
            verdict, told = stands(machine, other)
            if verdict == "yes":
                self.assertIsNone(pairs_fault(machine, other, told))
                for k in range(len(told)):
                    # Not one of them can be spared.
                    self.assertIsNotNone(pairs_fault(machine, other, told[:k] + told[k + 1:]))
