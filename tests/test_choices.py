"""[31] the least nets for words, and the words with the fewest pieces."""

import itertools
import random
import unittest

from opencells.bitmachines import bit_fault
from opencells.choices import nets_for, words_for
from opencells.errors import NoWords, TooMany
from opencells.nets import least_net
from opencells.words import bits_of, tables
from tests import brute, brutenets
from tests.samples import FULL, ODD_THINGS, SMALL, countdown, draw_machine, ring
from tests.test_nets import ONE_MORE_TOGETHER
from tests.test_words import all_open, draw_words


def machine_of_table(on, off):
    """A machine of eight rooms and four asks, for the words of which net 3 has this table: room and word are one."""
    def says(point):
        return 1 if point in on else 0 if point in off else None
    return (4, tuple(tuple((None, says(word + ask * 8)) for ask in range(4)) for word in range(8)))


def brute_words(machine):
    """All words gone through: the first with the fewest pieces, and how many these are."""
    b, c = bits_of(machine)
    counts = {}
    for words in itertools.permutations(range(2 ** b), len(machine[1])):
        nets = [brutenets.least_net(b + c, on, off)[0] for on, off in tables(machine, words)]
        counts[words] = sum(len(net) for net in nets)
    best = min(counts.values())
    return min(words for words, many in counts.items() if many == best), best


class NetsForTest(unittest.TestCase):

    def test_written_out(self):
        self.assertEqual(nets_for(ring([5, 2]), (0, 1)), (1, 0, (("0",), ("0",), ("1",), ("0",))))
        self.assertEqual(nets_for(ring([5, 2]), (1, 0)), (1, 0, (("0",), ("1",), ("0",), ("1",))))
        self.assertEqual(nets_for(ring([6]), (1,)), (1, 0, (("-",), (), ("-",), ("-",))))
        self.assertEqual(nets_for(all_open(8, 4), tuple(range(8))), (3, 2, ((),) * 6))

    def test_each_net_is_the_least_one_in_its_order(self):
        draw = random.Random(171)
        refused = 0
        for k in range(120):
            machine = draw_machine(draw, draw.randint(1, 8), draw.randint(1, 4), draw.choice((0, 0.3)), 0.3, 8)
            words = draw_words(draw, machine)
            b, c = bits_of(machine)
            try:
                nets = tuple(brutenets.least_net(b + c, on, off)[0] for on, off in tables(machine, words))
            except brute.TooLong:
                self.assertRaises(TooMany, nets_for, machine, words)
                refused += 1
                continue
            told = nets_for(machine, words)
            self.assertEqual(told, (b, c, nets))
            self.assertEqual((type(told), type(told[2])), (tuple, tuple))
            self.assertEqual([type(net) for net in told[2]], [tuple] * (b + 3))
            self.assertIsNone(bit_fault(machine, words, told))
        self.assertGreater(refused, 0)
        self.assertLess(refused, 60)

    def test_all_words(self):
        for machine in (SMALL, FULL):
            for words in itertools.permutations(range(4), 3):
                nets = tuple(least_net(3, on, off)[0] for on, off in tables(machine, words))
                self.assertEqual(nets_for(machine, words), (2, 1, nets))

    def test_too_many_rooms_ahead_of_all_else(self):
        for rooms in (9, 10, 24):
            for words in (tuple(range(rooms)), (), None, "words", (0, 0), [0]):
                self.assertRaises(TooMany, nets_for, countdown(rooms), words)

    def test_no_words(self):
        for words in ((), (0, 1), (0, 1, 2, 3), (0, 1, 1), (0, 1, 4), (0, 1, -1), (0, True, 2), "012", [0, 1, 2]):
            self.assertRaises(NoWords, nets_for, SMALL, words)
        for thing in ODD_THINGS:
            self.assertRaises(NoWords, nets_for, SMALL, thing)

    def test_too_many_tries_behind_no_words(self):
        for on, off in ONE_MORE_TOGETHER:
            machine = machine_of_table(on, off)
            words = tuple(range(8))
            self.assertEqual(tables(machine, words)[3], (on, off))
            self.assertRaises(TooMany, nets_for, machine, words)
            for thing in (words[:-1], words + (8,), words[:-1] + (8,), words[:-1] + (0,), list(words), None):
                self.assertRaises(NoWords, nets_for, machine, thing)


class WordsForTest(unittest.TestCase):

    def test_written_out(self):
        # With words 0, 1 the nets are 0; 0; 1; 0, with 1, 0 they are 0; 1; 0; 1: the first ones are told.
        self.assertEqual(words_for(ring([5, 2])), ((0, 1), (1, 0, (("0",), ("0",), ("1",), ("0",))), 4))
        # One room of no answer: with the word 0 it needs no piece at all.
        self.assertEqual(words_for(ring([0])), ((0,), (1, 0, ((), (), (), ())), 0))
        self.assertEqual(words_for(ring([7])), ((0,), (1, 0, ((), ("-",), ("-",), ("-",))), 3))
        self.assertEqual(words_for(all_open(4, 2)), ((0, 1, 2, 3), (2, 1, ((),) * 5), 0))

    def test_not_the_first_words(self):
        # All lead to room 1: where its word is 0, no piece is needed for the words.
        machine = (1, (((1, None),), ((1, None),)))
        self.assertEqual(words_for(machine), ((1, 0), (1, 0, ((),) * 4), 0))
        machine = (2, (((2, None),) * 2,) * 3)
        self.assertEqual(words_for(machine), ((1, 2, 0), (2, 1, ((),) * 5), 0))

    def test_a_piece_counts_in_each_net(self):
        machine = (1, (((None, 7),), ((None, 0),)))
        words, bits, many = words_for(machine)
        self.assertEqual(bits[2], ((), ("0",), ("0",), ("0",)))
        self.assertEqual(many, 3)

    def test_all_machines_of_two_rooms_and_one_ask(self):
        for machine in brute.all_machines(1, 2, 2):
            words, many = brute_words(machine)
            self.assertEqual(words_for(machine), (words, nets_for(machine, words), many))

    def test_drawn_machines(self):
        draw = random.Random(172)
        first = 0
        for k in range(50):
            machine = draw_machine(draw, draw.randint(1, 4), draw.randint(1, 2), draw.choice((0, 0.4)), 0.4, 8)
            words, many = brute_words(machine)
            told = words_for(machine)
            self.assertEqual(told, (words, nets_for(machine, words), many))
            self.assertEqual(told[2], sum(len(net) for net in told[1][2]))
            self.assertIsNone(bit_fault(machine, words, told[1]))
            self.assertEqual([type(part) for part in told], [tuple, tuple, int])
            first += words == tuple(range(len(machine[1])))
        self.assertGreater(50 - first, 15)

    def test_too_many(self):
        for rooms, asks in itertools.product((1, 2, 3, 4, 5, 6, 8, 9, 24), (1, 2, 3, 4)):
            machine = all_open(rooms, asks)
            if rooms <= 4 and asks <= 2:
                self.assertEqual(words_for(machine)[2], 0)
            else:
                self.assertRaises(TooMany, words_for, machine)
