"""[26], [28], [29] nets, their faults, and the least ones with their papers."""

import itertools
import random
import unittest

from opencells.errors import TooMany
from opencells.nets import least_net, net_fault, says
from tests import brute, brutenets
from tests.spoil import spoilt

# Tables of five bits: all tries together are just 300 of these.
JUST_TOGETHER = [
    ((0, 2, 4, 6, 8, 9, 10, 12, 15, 17, 18, 19, 20, 21, 23, 25, 26, 28), (1, 3, 13, 14, 22, 27, 29, 30)),
    ((3, 4, 6, 7, 11, 12, 13, 15, 16, 17, 19, 20, 21, 24, 26, 27, 28), (0, 1, 5, 8, 9, 10, 14, 18, 22, 23, 25, 29, 30)),
]

# Just 301 of these.
ONE_MORE_TOGETHER = [
    ((1, 3, 6, 7, 13, 14, 16, 20, 23, 24, 25, 26, 27, 28), (0, 2, 8, 9, 10, 11, 12, 21, 30, 31)),
    ((2, 4, 7, 9, 15, 16, 19, 20, 24, 29, 30), (0, 1, 5, 11, 13, 14, 17, 18, 22, 23, 25, 26, 27, 28, 31)),
]


def odd_bits(v):
    """The table of the points with an odd count of bits: no two of them are in one free piece."""
    points = range(2 ** v)
    return (tuple(point for point in points if bin(point).count("1") % 2),
            tuple(point for point in points if bin(point).count("1") % 2 == 0))


def draw_table(draw, v):
    """A drawn asked table of v bits, with some points free."""
    points = draw.sample(range(2 ** v), 2 ** v)
    ends = sorted(draw.randint(0, 2 ** v) for end in range(2))
    return tuple(sorted(points[:ends[0]])), tuple(sorted(points[ends[0]:ends[1]]))


def draw_net(draw, v, most):
    return tuple("".join(draw.choice("01-") for sign in range(v)) for piece in range(draw.randint(0, most)))


def brute_fault(on, off, net):
    """The fault of a net, by all points of all its pieces."""
    lacks = [point for point in on if not any(brutenets.piece_has(piece, point) for piece in net)]
    if lacks:
        return ("lacks", min(lacks))
    wrong = [(k, point) for k, piece in enumerate(net) for point in off if brutenets.piece_has(piece, point)]
    return ("has", *min(wrong)) if wrong else None


def all_tables(v):
    """All asked tables of v bits."""
    for signs in itertools.product("01-", repeat=2 ** v):
        yield (tuple(point for point, sign in enumerate(signs) if sign == "1"),
               tuple(point for point, sign in enumerate(signs) if sign == "0"))


class SaysTest(unittest.TestCase):

    def test_written_out(self):
        self.assertEqual([says(("10", "-1"), point) for point in range(4)], [0, 1, 1, 1])
        self.assertEqual([says(("10", "10"), point) for point in range(4)], [0, 1, 0, 0])
        self.assertEqual([says((), point) for point in range(4)], [0, 0, 0, 0])
        self.assertEqual([says(("--",), point) for point in range(4)], [1, 1, 1, 1])

    def test_told_are_numbers(self):
        self.assertIs(type(says(("1",), 0)), int)
        self.assertIs(type(says(("1",), 1)), int)
        self.assertIs(type(says((), 1)), int)

    def test_drawn_nets(self):
        draw = random.Random(131)
        for k in range(200):
            v = draw.randint(1, 5)
            net = draw_net(draw, v, 6)
            for point in range(2 ** v):
                self.assertEqual(says(net, point), int(any(brutenets.piece_has(piece, point) for piece in net)))


class FaultTest(unittest.TestCase):

    def test_none(self):
        self.assertIsNone(net_fault((), (), ()))
        self.assertIsNone(net_fault((), (0, 1, 2, 3), ()))
        self.assertIsNone(net_fault((1, 3), (0, 2), ("1-",)))
        self.assertIsNone(net_fault((1,), (0,), ("1-", "10", "1-")))
        self.assertIsNone(net_fault((), (), ("--",)))

    def test_lacks_the_first_point(self):
        self.assertEqual(net_fault((0, 1, 2), (), ("1-",)), ("lacks", 0))
        self.assertEqual(net_fault((1, 2, 3), (), ("1-",)), ("lacks", 2))
        self.assertEqual(net_fault((0,), (), ()), ("lacks", 0))

    def test_has_by_the_piece_then_by_the_point(self):
        self.assertEqual(net_fault((1,), (0, 2), ("1-", "-1", "0-")), ("has", 1, 2))
        self.assertEqual(net_fault((1,), (0, 2), ("1-", "0-", "-1")), ("has", 1, 0))
        self.assertEqual(net_fault((), (0, 1, 2, 3), ("-1", "--")), ("has", 0, 2))

    def test_lacks_ahead_of_has(self):
        self.assertEqual(net_fault((1, 2), (0, 3), ("0-",)), ("lacks", 1))
        self.assertEqual(net_fault((1, 2), (0, 3), ("0-", "--")), ("has", 0, 0))

    def test_pieces_some_twice_and_forty(self):
        net = ("10",) * 39
        self.assertIsNone(net_fault((1,), (0, 2, 3), net + ("10",)))
        self.assertEqual(net_fault((1,), (0, 2, 3), net + ("1-",)), ("has", 39, 3))
        self.assertEqual(net_fault((1, 2), (0, 3), net + ("10",)), ("lacks", 2))

    def test_drawn_nets(self):
        draw = random.Random(132)
        ends = {"lacks": 0, "has": 0, None: 0}
        for k in range(1500):
            v = draw.randint(1, 5)
            on, off = draw_table(draw, v)
            if draw.random() < 0.5:
                on, off = on[:2], off[:3]
            net = draw_net(draw, v, draw.choice((3, 10, 40)))
            fault = brute_fault(on, off, net)
            self.assertEqual(net_fault(on, off, net), fault)
            ends[fault and fault[0]] += 1
        self.assertTrue(all(many > 50 for many in ends.values()), ends)


class LeastTest(unittest.TestCase):

    def assert_least(self, v, on, off):
        """Told is the net of the try that comes out, and a paper for as many pieces."""
        expected, total = brutenets.least_net(v, on, off)
        net, paper = least_net(v, on, off)
        self.assertEqual(net, expected)
        self.assertIs(type(net), tuple)
        self.assertIsNone(brute_fault(on, off, net))
        self.assertIsNone(net_fault(on, off, net))
        if net == ():
            self.assertIsNone(paper)
        else:
            self.assertTrue(brutenets.is_paper(v, on, off, len(net), paper))
            self.assertFalse(brutenets.is_paper(v, on, off, len(net) + 1, paper))
        return total

    def test_no_point_of_on(self):
        for v in range(1, 6):
            self.assertEqual(least_net(v, (), ()), ((), None))
            self.assertEqual(least_net(v, (), tuple(range(2 ** v))), ((), None))

    def test_written_out(self):
        self.assertEqual(least_net(2, (1, 2), ()), (("--",), ("tries", ("left", 1))))
        self.assertEqual(least_net(2, (1, 2), (0, 3)), (
            ("10", "01"), ("tries", ("point", 1, (("left", 2),)))))
        net, paper = least_net(2, (1, 2, 3), (0,))
        self.assertEqual(net, ("1-", "-1"))
        self.assertEqual(paper, ("tries", ("point", 1, (("left", 2),))))

    def test_one_piece(self):
        for v in range(1, 6):
            self.assertEqual(least_net(v, tuple(range(2 ** v)), ()), (("-" * v,), ("tries", ("left", 0))))

    def test_pieces_in_their_order(self):
        # The first point of on is 0: of its two greatest pieces the first one leads to a net of two, too.
        on, off = (0, 1, 2, 5, 6, 7), (3, 4)
        net = least_net(3, on, off)[0]
        self.assertEqual(net, brutenets.least_net(3, on, off)[0])
        self.assertEqual(len(net), 3)
        self.assertTrue(brutenets.piece_has(net[0], 0))

    def test_odd_bits(self):
        for v in range(1, 6):
            on, off = odd_bits(v)
            net, paper = least_net(v, on, off)
            self.assertEqual(len(net), 2 ** (v - 1))
            self.assertTrue(brutenets.is_paper(v, on, off, len(net), paper))
            self.assert_least(v, on, off)

    def test_all_tables_of_few_bits(self):
        for v in (1, 2):
            for on, off in all_tables(v):
                self.assert_least(v, on, off)

    def test_drawn_tables(self):
        draw = random.Random(133)
        ends = {"told": 0, "refused": 0}
        for k in range(150):
            v = draw.randint(3, 5)
            on, off = draw_table(draw, v)
            try:
                brutenets.least_net(v, on, off)
            except brute.TooLong:
                self.assertRaises(TooMany, least_net, v, on, off)
                ends["refused"] += 1
                continue
            self.assert_least(v, on, off)
            ends["told"] += 1
        self.assertTrue(ends["told"] > 80 and ends["refused"] > 2, ends)

    def test_three_hundred_tries_together_are_let(self):
        for on, off in JUST_TOGETHER:
            self.assertEqual(self.assert_least(5, on, off), 300)

    def test_one_more_is_refused(self):
        for on, off in ONE_MORE_TOGETHER:
            total, m, net = 0, 0, None
            while net is None:
                tries = brutenets.NetTries(5, on, off, m, 301)
                total, m, net = total + tries.count, m + 1, tries.net
            self.assertEqual(total, 301)
            with self.assertRaises(TooMany):
                least_net(5, on, off)

    def test_no_net_of_fewer_pieces_is_right(self):
        for v in (1, 2):
            for on, off in all_tables(v):
                self.assert_none_of_fewer(v, on, off)
        draw = random.Random(134)
        for k in range(40):
            self.assert_none_of_fewer(3, *draw_table(draw, 3))

    def assert_none_of_fewer(self, v, on, off):
        many = len(least_net(v, on, off)[0])
        for fewer in range(many if v < 3 else min(many, 3)):
            for net in itertools.combinations(brutenets.all_pieces(v), fewer):
                self.assertIsNotNone(net_fault(on, off, net))


class PapersTest(unittest.TestCase):

    def test_the_check_of_papers_is_a_check(self):
        # A paper put otherwise in one place is let by only where it still is one, with another point.
        on, off = (1, 2, 4), (0, 7)
        net, paper = least_net(3, on, off)
        let = [thing for thing in spoilt(paper) if brutenets.is_paper(3, on, off, len(net), thing)]
        self.assertTrue(all(thing[0] == "tries" for thing in let))
        self.assertLess(len(let), 20)
        self.assertGreater(sum(1 for thing in spoilt(paper)), 200)

    def test_trees_are_tuples_throughout(self):
        paper = least_net(4, *odd_bits(4))[1]
        tree, deep = paper[1], 0
        while tree[0] == "point":
            self.assertIs(type(tree), tuple)
            self.assertIs(type(tree[2]), tuple)
            tree, deep = tree[2][0], deep + 1
        self.assertEqual((tree[0], deep), ("left", 7))
