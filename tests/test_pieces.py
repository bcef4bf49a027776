"""[26], [27] pieces: the points they have, joins, and the greatest ones."""

import itertools
import random
import unittest

from opencells.pieces import greatest_pieces, has, join
from tests import brutenets


class HasTest(unittest.TestCase):

    def test_written_out(self):
        # Sign 0 is for the 1's bit.
        self.assertIs(has("10", 1), True)
        self.assertIs(has("10", 2), False)
        self.assertIs(has("-1", 2), True)
        self.assertIs(has("-1", 3), True)
        self.assertIs(has("-1", 1), False)
        self.assertEqual([point for point in range(8) if has("1-0", point)], [1, 3])
        self.assertEqual([point for point in range(32) if has("--1-0", point)], [4, 5, 6, 7, 12, 13, 14, 15])

    def test_all_pieces_and_points(self):
        for v in range(1, 6):
            for piece in brutenets.all_pieces(v):
                had = [point for point in range(2 ** v) if has(piece, point)]
                self.assertEqual(had, [point for point in range(2 ** v) if brutenets.piece_has(piece, point)])
                self.assertEqual(len(had), 2 ** piece.count("-"))

    def test_told_are_truths(self):
        self.assertIs(has("-", 0), True)
        self.assertIs(has("-", 1), True)
        self.assertIs(has("0", 0), True)
        self.assertIs(has("0", 1), False)
        self.assertIs(has("1", 0), False)


class JoinTest(unittest.TestCase):

    def test_written_out(self):
        self.assertEqual(join(3, 1, 3), "1-0")
        self.assertEqual(join(3, 3, 1), "1-0")
        self.assertEqual(join(5, 4, 4), "00100")
        self.assertEqual(join(1, 0, 1), "-")
        self.assertEqual(join(4, 1, 14), "----")

    def test_least_piece_that_has_both(self):
        for v in range(1, 5):
            for one, other in itertools.product(range(2 ** v), repeat=2):
                both = [piece for piece in brutenets.all_pieces(v)
                        if brutenets.piece_has(piece, one) and brutenets.piece_has(piece, other)]
                self.assertEqual(join(v, one, other), min(both, key=lambda piece: piece.count("-")))

    def test_all_points_of_five_bits(self):
        for one, other in itertools.product(range(32), repeat=2):
            piece = join(5, one, other)
            bits = zip(f"{one:05b}"[::-1], f"{other:05b}"[::-1], strict=True)
            self.assertEqual(piece, "".join(bit if bit == beside else "-" for bit, beside in bits))


class GreatestTest(unittest.TestCase):

    def test_written_out(self):
        self.assertEqual(greatest_pieces(2, (), 1), ["--"])
        self.assertEqual(greatest_pieces(2, (0,), 3), ["-1", "1-"])
        self.assertEqual(greatest_pieces(2, (0, 3), 1), ["10"])
        self.assertEqual(greatest_pieces(2, (0, 1), 2), ["-1"])
        self.assertEqual(greatest_pieces(3, (3, 5, 6), 0), ["-00", "0-0", "00-"])
        self.assertEqual(greatest_pieces(3, (0,), 7), ["--1", "-1-", "1--"])

    def test_nothing_off(self):
        for v in range(1, 6):
            for point in range(2 ** v):
                self.assertEqual(greatest_pieces(v, (), point), ["-" * v])

    def test_all_others_off(self):
        for v in range(1, 6):
            for point in range(2 ** v):
                off = tuple(other for other in range(2 ** v) if other != point)
                self.assertEqual(greatest_pieces(v, off, point), [join(v, point, point)])

    def test_all_tables_of_few_bits(self):
        for v in (1, 2, 3):
            for many in range(2 ** v):
                for off in itertools.combinations(range(2 ** v), many):
                    for point in set(range(2 ** v)) - set(off):
                        self.assertEqual(greatest_pieces(v, off, point), list(brutenets.greatest_pieces(v, off, point)))

    def test_drawn_tables(self):
        draw = random.Random(121)
        for v in (4, 5):
            for k in range(25):
                off = tuple(sorted(draw.sample(range(2 ** v), draw.randint(0, 2 ** v - 1))))
                for point in set(range(2 ** v)) - set(off):
                    told = greatest_pieces(v, off, point)
                    self.assertEqual(told, list(brutenets.greatest_pieces(v, off, point)))
                    self.assertIs(type(told), list)
                    self.assertTrue(told)

    def test_many_greatest_pieces(self):
        # All points with three bits of five are off: those of no bits have ten pieces, of two bits each.
        off = tuple(point for point in range(32) if bin(point).count("1") == 3)
        told = greatest_pieces(5, off, 0)
        self.assertEqual(len(told), 10)
        self.assertEqual(told, sorted(told))
        self.assertTrue(all(sorted(piece) == sorted("--000") for piece in told))
