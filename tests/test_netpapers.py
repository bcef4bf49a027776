"""[28] papers that an asked table needs so many pieces."""

import itertools
import random
import unittest
from unittest.mock import ANY

from opencells.errors import TooMany
from opencells.netpapers import needs_pieces
from opencells.nets import least_net, net_fault
from tests import brutenets
from tests.samples import ODD_THINGS, nested
from tests.spoil import spoilt
from tests.test_nets import JUST_TOGETHER, all_tables, draw_table, odd_bits

# Three bits: each point of on can be in one piece with the next one, round: three pieces are needed.
ROUND = ((1, 2, 3, 4, 5, 6), (0, 7))


def draw_tree(draw, v, on, off, m, pieces=()):
    """A drawn tree for a try for m pieces of which none comes out: any points that none has."""
    point = draw.choice(brutenets.lacked(on, pieces))
    if len(pieces) == m:
        return ("left", point)
    greatest = brutenets.greatest_pieces(v, off, point)
    return ("point", point, tuple(draw_tree(draw, v, on, off, m, pieces + (piece,)) for piece in greatest))


def drawn_tables(seed, many, most_bits):
    """Drawn tables with their bits, and how many pieces each needs: one or more."""
    draw = random.Random(seed)
    found = []
    while len(found) < many:
        v = draw.randint(1, most_bits)
        on, off = draw_table(draw, v)
        try:
            needed = len(least_net(v, on, off)[0])
        except TooMany:
            continue
        if needed:
            found.append((v, on, off, needed))
    return found


class Checked(unittest.TestCase):

    def check(self, v, on, off, many, thing):
        """A thing is told of as it should be: told is whether it is a paper."""
        right = brutenets.is_paper(v, on, off, many, thing)
        self.assertIs(needs_pieces(v, on, off, many, thing), right, thing)
        return right

    def check_spoilt(self, v, on, off, many, paper):
        """Each spoilt paper is told of as it should be; some may still be papers, with other points."""
        self.assertIs(needs_pieces(v, on, off, many, paper), True)
        told = [self.check(v, on, off, many, thing) for thing in spoilt(paper)]
        self.assertGreater(told.count(False), 60)


class SpreadTest(Checked):

    def test_written_out(self):
        self.assertIs(needs_pieces(2, (1, 2), (0, 3), 2, ("spread", (1, 2))), True)
        self.assertIs(needs_pieces(2, (1, 2), (0,), 2, ("spread", (1, 2))), True)
        self.assertIs(needs_pieces(2, (1, 2), (3,), 2, ("spread", (2, 1))), True)
        self.assertIs(needs_pieces(2, (1, 2), (), 2, ("spread", (1, 2))), False)
        self.assertIs(needs_pieces(2, (0, 1), (2, 3), 2, ("spread", (0, 1))), False)

    def test_one_point(self):
        for v in range(1, 6):
            for on, off in (((0,), ()), ((2 ** v - 1,), (0,)), (tuple(range(2 ** v)), ())):
                for point in range(-1, 2 ** v + 1):
                    self.assertIs(needs_pieces(v, on, off, 1, ("spread", (point,))), point in on)

    def test_in_any_order(self):
        on, off = odd_bits(3)
        for many in range(1, 5):
            for points in itertools.permutations(on, many):
                self.assertIs(needs_pieces(3, on, off, many, ("spread", points)), True)

    def test_one_more_or_fewer(self):
        for v in range(1, 6):
            on, off = odd_bits(v)
            for many in range(1, len(on) + 1):
                for asked in range(1, 34):
                    self.assertIs(needs_pieces(v, on, off, asked, ("spread", on[:many])), asked == many)

    def test_a_point_twice(self):
        on, off = odd_bits(3)
        self.assertIs(needs_pieces(3, on, off, 4, ("spread", (1, 2, 4, 7))), True)
        for points in ((1, 1, 2, 4), (1, 2, 4, 1), (7, 7, 7, 7), (1, 2, 2, 4)):
            self.assertIs(needs_pieces(3, on, off, 4, ("spread", points)), False)
        self.assertIs(needs_pieces(3, on, off, 2, ("spread", (1, 1))), False)
        # Even where the join of a point and itself would have a point of off, were it one of on.
        self.assertIs(needs_pieces(3, on, off, 2, ("spread", (0, 0))), False)

    def test_points_that_are_not_in_on(self):
        on, off = (1, 2), (0, 3, 7)
        self.assertIs(needs_pieces(3, on, off, 2, ("spread", (1, 2))), True)
        for point in (0, 3, 4, 5, 6, 7, 8, 9, -1, -2, 31, 32, 10 ** 40, None, True, False, "2", (2,), [2], b"2"):
            self.assertIs(needs_pieces(3, on, off, 2, ("spread", (1, point))), False)
            self.assertIs(needs_pieces(3, on, off, 2, ("spread", (point, 2))), False)
            self.assertIs(needs_pieces(3, on, off, 3, ("spread", (1, point, 2))), False)

    def test_two_whose_join_is_free(self):
        on, off = ROUND
        for one, other in itertools.permutations(on, 2):
            # Only those with one bit unlike can be in one piece; others would have 0 or 7.
            self.assertIs(needs_pieces(3, on, off, 2, ("spread", (one, other))), one ^ other not in (1, 2, 4))
        for points in itertools.permutations(on, 3):
            self.assertIs(needs_pieces(3, on, off, 3, ("spread", points)), sorted(points) in ([1, 2, 4], [3, 5, 6]))

    def test_truths_and_lists(self):
        on, off = (0, 1), ()
        self.assertIs(needs_pieces(1, on, off, 1, ("spread", (0,))), True)
        self.assertIs(needs_pieces(1, on, off, 1, ("spread", (1,))), True)
        for thing in (("spread", (True,)), ("spread", (False,)), ("spread", [0]), ["spread", (0,)], ("spread", 0),
                      ("spread", (0,), ()), ("spread",), ("Spread", (0,)), (b"spread", (0,)), ("spread", {0: 0}),
                      ("spread", "0"), ("tries", (0,)), ("parted", (0,)), ("spread", None), ((0,), "spread")):
            self.assertIs(needs_pieces(1, on, off, 1, thing), False)

    def test_none_without_points_of_on(self):
        for v in range(1, 6):
            for many in (1, 2, 33):
                for points in ((), (0,), tuple(range(many))):
                    self.assertIs(needs_pieces(v, (), (1,), many, ("spread", points)), False)

    def test_spoilt_in_one_place(self):
        for v, points in ((2, (1, 2)), (3, (7, 1, 4)), (4, (1, 2, 4, 8)), (3, (2,))):
            on, off = odd_bits(v)
            self.check_spoilt(v, on, off, len(points), ("spread", points))

    def test_all_points_of_few_bits(self):
        right = 0
        for on, off in all_tables(2):
            for many in (1, 2, 3):
                for points in itertools.product(range(4), repeat=many):
                    right += self.check(2, on, off, many, ("spread", points))
        self.assertGreater(right, 100)

    def test_drawn_points(self):
        draw = random.Random(151)
        right = 0
        for v, on, off, needed in drawn_tables(152, 400, 4):
            points = tuple(draw.sample(on, draw.randint(1, min(len(on), 4))))
            right += self.check(v, on, off, len(points), ("spread", points)) and len(points) > 1
        self.assertGreater(right, 30)


class TriesTest(Checked):

    def test_written_out(self):
        # No piece at all: a point of on is left.
        self.assertIs(needs_pieces(2, (1, 2), (0,), 1, ("tries", ("left", 1))), True)
        self.assertIs(needs_pieces(2, (1, 2), (0,), 1, ("tries", ("left", 2))), True)
        self.assertIs(needs_pieces(2, (1, 2), (0,), 1, ("tries", ("left", 0))), False)
        self.assertIs(needs_pieces(2, (1, 2), (0,), 1, ("tries", ("left", 3))), False)
        # One piece: the greatest of 1 is 1-, that of 2 is -1, of 3 both.
        self.assertIs(needs_pieces(2, (1, 2), (0,), 2, ("tries", ("point", 1, (("left", 2),)))), True)
        self.assertIs(needs_pieces(2, (1, 2), (0,), 2, ("tries", ("point", 2, (("left", 1),)))), True)
        self.assertIs(needs_pieces(2, (1, 2), (0,), 2, ("tries", ("point", 1, (("left", 1),)))), False)
        self.assertIs(needs_pieces(2, (1, 2, 3), (0,), 2, ("tries", ("point", 3, (("left", 1), ("left", 2))))), True)
        self.assertIs(needs_pieces(2, (1, 2, 3), (0,), 2, ("tries", ("point", 3, (("left", 2), ("left", 1))))), False)
        self.assertIs(needs_pieces(2, (1, 2), (0,), 2, ("tries", ("point", 3, (("left", 1), ("left", 2))))), False)

    def test_left_just_where_they_are_so_many(self):
        on, off = odd_bits(2)
        left, point = ("left", 2), ("point", 1, (("left", 2),))
        self.assertIs(needs_pieces(2, on, off, 1, ("tries", left)), True)
        self.assertIs(needs_pieces(2, on, off, 2, ("tries", left)), False)
        self.assertIs(needs_pieces(2, on, off, 3, ("tries", left)), False)
        self.assertIs(needs_pieces(2, on, off, 1, ("tries", point)), False)
        self.assertIs(needs_pieces(2, on, off, 2, ("tries", point)), True)
        self.assertIs(needs_pieces(2, on, off, 3, ("tries", point)), False)
        self.assertIs(needs_pieces(2, on, off, 2, ("tries", ("point", 1, (point,)))), False)
        self.assertIs(needs_pieces(2, on, off, 2, ("tries", ("point", 1, (("point", 2, (("left", 2),)),)))), False)

    def test_a_point_that_some_piece_has(self):
        on, off = ROUND
        paper = least_net(3, on, off)[1]
        self.assertIs(needs_pieces(3, on, off, 3, paper), True)
        head, first, trees = paper[1]
        for at, (word, point, behind) in enumerate(trees):
            piece = brutenets.greatest_pieces(3, off, first)[at]
            for other in range(-1, 9):
                thing = ("tries", (head, first, trees[:at] + ((word, other, behind),) + trees[at + 1:]))
                if brutenets.is_paper(3, on, off, 3, thing):
                    self.assertFalse(brutenets.piece_has(piece, other))
                self.check(3, on, off, 3, thing)

    def test_trees_left_out_one_more_and_exchanged(self):
        on, off = (1, 2, 3), (0,)
        left = (("left", 1), ("left", 2))
        self.assertIs(needs_pieces(2, on, off, 2, ("tries", ("point", 3, left))), True)
        for trees in ((), left[:1], left[1:], left + left[:1], left[:1] + left, left[::-1], list(left), None, left[0],
                      (left,), left[:1] * 2, left + (None,), (None, None), {0: left[0], 1: left[1]}):
            self.assertIs(needs_pieces(2, on, off, 2, ("tries", ("point", 3, trees))), False)

    def test_least_nets_papers(self):
        counts = set()
        for v, on, off, needed in drawn_tables(153, 120, 5):
            net, paper = least_net(v, on, off)
            for many in range(1, 34):
                self.assertIs(needs_pieces(v, on, off, many, paper), many == needed)
            counts.add(needed)
        self.assertTrue({1, 2, 3, 4, 5, 6} <= counts, counts)

    def test_great_papers(self):
        for on, off in JUST_TOGETHER:
            net, paper = least_net(5, on, off)
            for many in range(1, 34):
                self.assertIs(needs_pieces(5, on, off, many, paper), many == len(net))

    def test_deep_papers(self):
        # Sixteen points that are all apart: one tree within the other.
        on, off = odd_bits(5)
        draw = random.Random(154)
        for many in range(1, 17):
            paper = ("tries", draw_tree(draw, 5, on, off, many - 1))
            for asked in range(1, 34):
                self.assertIs(needs_pieces(5, on, off, asked, paper), asked == many)

    def test_drawn_trees(self):
        draw = random.Random(155)
        for v, on, off, needed in drawn_tables(156, 150, 4):
            many = draw.randint(1, min(needed, 4))
            paper = ("tries", draw_tree(draw, v, on, off, many - 1))
            self.assertIs(needs_pieces(v, on, off, many, paper), True)
            some = list(itertools.islice(spoilt(paper), 4000))
            for thing in draw.sample(some, min(len(some), 60)):
                self.check(v, on, off, many, thing)

    def test_spoilt_in_one_place(self):
        for v, (on, off) in ((2, ((1, 2, 3), (0,))), (3, ROUND), (3, odd_bits(3)), (1, ((0,), (1,)))):
            net, paper = least_net(v, on, off)
            self.check_spoilt(v, on, off, len(net), paper)

    def test_papers_of_other_tables(self):
        tables = drawn_tables(157, 25, 3)
        papers = [least_net(v, on, off)[1] for v, on, off, needed in tables]
        for v, on, off, needed in tables:
            for paper, (other_v, other_on, other_off, many) in zip(papers, tables):
                self.check(v, on, off, many, paper)


class AnythingTest(Checked):

    def test_odd_things(self):
        on, off = (0, 1, 3), (2,)
        for thing in ODD_THINGS:
            for many in (1, 2, 33):
                self.assertIs(needs_pieces(2, on, off, many, thing), False)
                for paper in (("spread", thing), ("tries", thing), (thing, thing), (thing, (0,)),
                              ("spread", (0, thing)), ("tries", ("left", thing)), ("tries", ("point", thing, ())),
                              ("tries", ("point", 0, thing)), ("tries", ("point", 0, (thing,))),
                              ("tries", (thing, 0)), ("tries", (thing, 0, (("left", 1),)))):
                    self.check(2, on, off, many, paper)

    def test_a_thing_equal_to_all_is_nothing(self):
        on, off = (0, 3), (1, 2)
        self.assertIs(needs_pieces(2, on, off, 2, ("tries", ("point", 0, (("left", 3),)))), True)
        for thing in (ANY, (ANY, ("point", 0, (("left", 3),))), ("tries", (ANY, 0, (("left", 3),))), (ANY, (0, 3)),
                      ("tries", ("point", ANY, (("left", 3),))), ("tries", ("point", 0, ((ANY, 3),))),
                      ("tries", ("point", 0, (("left", ANY),))), ("spread", (0, ANY)), ("spread", ANY)):
            self.assertIs(needs_pieces(2, on, off, 2, thing), False)

    def test_nested_far(self):
        for deep in (20, 50, 118):
            for outer in (lambda inner: ("point", 1, (inner,)), lambda inner: (inner,), lambda inner: [inner],
                          lambda inner: ("tries", inner), lambda inner: ("point", 1, inner),
                          lambda inner: ("left", inner), lambda inner: ("spread", inner)):
                thing = nested(deep // 2, outer)
                for many in (1, 2, 16, 17, 33):
                    self.assertIs(needs_pieces(5, *odd_bits(5), many, thing), False)
                    self.assertIs(needs_pieces(5, *odd_bits(5), many, ("tries", thing)), False)
                    self.assertIs(needs_pieces(5, *odd_bits(5), many, ("spread", thing)), False)

    def test_many_parts(self):
        on, off = odd_bits(5)
        wide = (("left", 1),) * 20000
        for many in (1, 2, 33, 20000):
            self.assertIs(needs_pieces(5, on, off, many, ("tries", ("point", 1, wide))), False)
            self.assertIs(needs_pieces(5, on, off, many, ("tries", wide)), False)
            self.assertIs(needs_pieces(5, on, off, many, ("spread", (1,) * 20000)), False)
            self.assertIs(needs_pieces(5, on, off, many, ("spread", tuple(range(20000)))), False)


class ShownTest(unittest.TestCase):

    def right_of_fewer(self, v, on, off, many):
        """A net of fewer pieces that is right; None where there is none."""
        for fewer in range(many):
            for net in itertools.combinations(brutenets.all_pieces(v), fewer):
                if net_fault(on, off, net) is None:
                    return net
        return None

    def test_no_net_of_fewer_pieces_is_right_where_a_paper_is_let_by(self):
        let = {"spread": 0, "tries": 0}
        draw = random.Random(158)
        for v in (1, 2):
            for on, off in all_tables(v):
                for many in range(1, len(on) + 1):
                    papers = [("spread", points) for points in itertools.combinations(on, many)]
                    if many <= len(least_net(v, on, off)[0]):
                        papers.append(("tries", draw_tree(draw, v, on, off, many - 1)))
                    for paper in papers:
                        if needs_pieces(v, on, off, many, paper):
                            self.assertIsNone(self.right_of_fewer(v, on, off, many))
                            let[paper[0]] += 1
        self.assertTrue(min(let.values()) > 50, let)

    def test_three_bits(self):
        draw = random.Random(159)
        for k in range(30):
            on, off = draw_table(draw, 3)
            needed = min(len(least_net(3, on, off)[0]), 3)
            for many in range(1, needed + 1):
                self.assertTrue(needs_pieces(3, on, off, many, ("tries", draw_tree(draw, 3, on, off, many - 1))))
            self.assertIsNone(self.right_of_fewer(3, on, off, needed))

    def test_no_paper_where_a_net_of_fewer_pieces_is_right(self):
        papers = [least_net(v, on, off)[1] for v in (2, 3) for on, off in [odd_bits(v), (tuple(range(v)), (7 % 2 ** v,))]]
        papers += [("spread", points) for points in itertools.permutations(range(4), 2)]
        papers += [("spread", points) for points in itertools.permutations(range(4), 3)]
        for on, off in all_tables(2):
            needed = len(least_net(2, on, off)[0])
            for paper in papers:
                for many in range(needed + 1, needed + 4):
                    self.assertIs(needs_pieces(2, on, off, many, paper), False)
