"""[24], [25] words of bits for rooms, and their tables."""

import itertools
import random
import unittest

from opencells.errors import NoWords, TooMany
from opencells.words import bits_of, is_words, tables
from tests.samples import FULL, ODD_THINGS, SMALL, countdown, draw_machine, ring
from tests.spoil import spoilt


def all_open(rooms, asks):
    return (asks, (((None, None),) * asks,) * rooms)


def draw_words(draw, machine):
    """Drawn words for a machine."""
    return tuple(draw.sample(range({1: 2, 2: 2, 3: 4, 4: 4}.get(len(machine[1]), 8)), len(machine[1])))


def brute_tables(machine, words, b, c):
    """The tables, point by point: which room and ask a point is of, and what its bits are there."""
    told = []
    for bit in range(b + 3):
        on, off = [], []
        for point in range(2 ** (b + c)):
            word, ask = point % 2 ** b, point // 2 ** b
            if word not in words or ask >= machine[0]:
                continue
            goes, says = machine[1][words.index(word)][ask]
            number = (None if goes is None else words[goes]) if bit < b else says
            if number is not None:
                (on if number // 2 ** (bit if bit < b else bit - b) % 2 else off).append(point)
        told.append((tuple(on), tuple(off)))
    return told


class BitsTest(unittest.TestCase):

    def test_bits(self):
        for rooms, b in zip(range(1, 9), (1, 1, 2, 2, 3, 3, 3, 3), strict=True):
            for asks, c in zip(range(1, 5), (0, 1, 2, 2), strict=True):
                self.assertEqual(bits_of(all_open(rooms, asks)), (b, c))

    def test_too_many_rooms(self):
        for rooms in range(9, 25):
            for machine in (all_open(rooms, 1), all_open(rooms, 4), countdown(rooms)):
                self.assertRaises(TooMany, bits_of, machine)
                for thing in (tuple(range(rooms)), (), None, [0], "words", (0, 0)):
                    self.assertRaises(TooMany, is_words, machine, thing)
                    self.assertRaises(TooMany, tables, machine, thing)


class IsWordsTest(unittest.TestCase):

    def test_all_tuples_of_small_numbers(self):
        for rooms, count in ((1, 2), (2, 2), (3, 4), (4, 4), (5, 8)):
            machine = all_open(rooms, 2)
            for many in range(rooms + 2):
                for thing in itertools.product(range(-1, count + 1), repeat=many) if rooms < 4 else []:
                    right = many == rooms and len(set(thing)) == many and all(0 <= word < count for word in thing)
                    self.assertIs(is_words(machine, thing), right)

    def test_all_words(self):
        for rooms in range(1, 9):
            machine = ring([0] * rooms)
            count = 2 ** bits_of(machine)[0]
            for words in itertools.permutations(range(count), rooms):
                self.assertIs(is_words(machine, words), True)
            words = tuple(range(rooms))
            self.assertIs(is_words(machine, words[:-1] + (count,)), False)
            self.assertIs(is_words(machine, words[:-1] + (-1,)), False)
            self.assertIs(is_words(machine, words + (rooms,)), False)
            self.assertIs(is_words(machine, words[1:]), False)
            self.assertIs(is_words(machine, words[1:] + words[-1:]), rooms == 1)
            self.assertIs(is_words(machine, list(words)), False)

    def test_truths_are_no_numbers(self):
        self.assertIs(is_words(ring([0]), (True,)), False)
        self.assertIs(is_words(ring([0]), (False,)), False)
        self.assertIs(is_words(ring([0, 1]), (0, True)), False)
        self.assertIs(is_words(ring([0, 1]), (False, 1)), False)
        self.assertIs(is_words(ring([0, 1]), (1, 0)), True)

    def test_anything(self):
        one = ring([0])
        for thing in ODD_THINGS:
            right = type(thing) is tuple and thing == (0,)
            self.assertIs(is_words(one, thing), right)
            self.assertIs(is_words(all_open(8, 4), thing), False)
            self.assertIs(is_words(all_open(3, 1), (0, thing, 2)), type(thing) is int and thing == 1)
            if not right:
                self.assertRaises(NoWords, tables, one, thing)

    def test_spoilt_in_one_place(self):
        machine = ring([0, 1, 2])
        for thing in spoilt((2, 0, 3)):
            right = (type(thing) is tuple and len(thing) == 3 and all(type(word) is int for word in thing)
                     and sorted(set(thing)) == sorted(thing) and set(thing) <= {0, 1, 2, 3})
            self.assertIs(is_words(machine, thing), right, thing)
            if not right:
                self.assertRaises(NoWords, tables, machine, thing)


class TablesTest(unittest.TestCase):

    def test_written_out(self):
        machine = (2, (((1, 5), (None, 0)), ((0, None), (1, 2)), ((None, None), (2, 7))))
        # Rooms 0, 1, 2 are 2, 0, 3; points of ask 1 are 4 more.
        self.assertEqual(tables(machine, (2, 0, 3)), [
            ((7,), (0, 2, 4)),
            ((0, 7), (2, 4)),
            ((2, 7), (4, 6)),
            ((4, 7), (2, 6)),
            ((2, 7), (4, 6)),
        ])

    def test_one_room(self):
        self.assertEqual(tables(ring([6]), (0,)), [((), (0,)), ((), (0,)), ((0,), ()), ((0,), ())])
        self.assertEqual(tables(ring([6]), (1,)), [((1,), ()), ((), (1,)), ((1,), ()), ((1,), ())])

    def test_all_open(self):
        for rooms in range(1, 9):
            machine = all_open(rooms, 3)
            self.assertEqual(tables(machine, tuple(range(rooms))), [((), ())] * (bits_of(machine)[0] + 3))

    def test_open_in_where_it_goes_or_in_what_it_says_alone(self):
        self.assertEqual(tables((1, (((None, 1),),)), (1,)), [((), ()), ((1,), ()), ((), (1,)), ((), (1,))])
        self.assertEqual(tables((1, (((0, None),),)), (1,)), [((1,), ()), ((), ()), ((), ()), ((), ())])

    def test_free_points(self):
        # Three rooms of two bits and three asks of two: word 1 and ask 3 are of none.
        machine = draw_machine(random.Random(111), 3, 3, 0, 0, 8)
        for on, off in tables(machine, (0, 2, 3)):
            self.assertEqual(sorted(on + off), [0, 2, 3, 4, 6, 7, 8, 10, 11])

    def test_drawn_machines(self):
        draw = random.Random(112)
        for rooms in range(1, 9):
            for asks, c in zip(range(1, 5), (0, 1, 2, 2), strict=True):
                for k in range(5):
                    machine = draw_machine(draw, rooms, asks, draw.choice((0, 0.3)), draw.choice((0, 0.3)), 8)
                    words = draw_words(draw, machine)
                    told = tables(machine, words)
                    self.assertEqual(told, brute_tables(machine, words, bits_of(machine)[0], c))
                    self.assertIs(type(told), list)
                    for on, off in told:
                        self.assertEqual((on, off), (tuple(sorted(set(on))), tuple(sorted(set(off)))))
                        self.assertFalse(set(on) & set(off))

    def test_tables_of_all_words(self):
        for machine in (SMALL, FULL):
            for words in itertools.permutations(range(4), 3):
                self.assertEqual(tables(machine, words), brute_tables(machine, words, 2, 1))

    def test_no_words(self):
        for thing in (None, (), [0, 1, 2], (0, 1), (0, 1, 2, 3), (0, 1, 1), (0, 1, 4), (0, 1, -1), (0, True, 2), "012"):
            self.assertRaises(NoWords, tables, SMALL, thing)
