"""[30] machines of bits: their faults, their steps and their runs."""

import itertools
import random
import unittest

from opencells.bitmachines import bit_fault, bit_run, step
from opencells.choices import nets_for
from opencells.errors import NoWords, TooMany
from opencells.nets import net_fault
from opencells.runs import lets, run
from opencells.words import bits_of, tables
from tests import brutenets
from tests.samples import FULL, ODD_THINGS, SMALL, countdown, draw_machine, draw_row, ring
from tests.test_nets import draw_net
from tests.test_words import all_open, draw_words

# One bit for words and none for asks: net 0 turns the word, nets 1 to 3 say 1, 0, and the word.
TURNING = (1, 0, (("0",), ("-",), (), ("1",)))


def right_bits(machine, words):
    """A machine of bits without a fault, of no least nets: a piece for each point of on."""
    b, c = bits_of(machine)
    nets = [tuple(bin(point)[2:].zfill(b + c)[::-1] for point in on) for on, off in tables(machine, words)]
    return (b, c, tuple(nets))


def with_net(bits, j, net):
    """The machine of bits with another net at j."""
    b, c, nets = bits
    return (b, c, nets[:j] + (net,) + nets[j + 1:])


def brute_step(bits, word, ask):
    """The step, by the figures of the word, the ask and all nets."""
    b, c, nets = bits
    figures = bin(word)[2:].zfill(b)[::-1] + (bin(ask)[2:].zfill(c)[::-1] if c else "")
    said = "".join(str(int(any(all(sign in ("-", figure) for sign, figure in zip(piece, figures, strict=True))
                               for piece in net))) for net in nets)
    return int(said[:b][::-1], 2), int(said[b:][::-1], 2)


def drawn_bits(seed, many):
    """Drawn machines of bits, of all counts of bits."""
    draw = random.Random(seed)
    found = []
    for k in range(many):
        b, c = draw.randint(1, 3), draw.randint(0, 2)
        found.append((b, c, tuple(draw_net(draw, b + c, draw.choice((1, 4))) for net in range(b + 3))))
    return found


class StepTest(unittest.TestCase):

    def test_written_out(self):
        self.assertEqual(step(TURNING, 0, 0), (1, 1))
        self.assertEqual(step(TURNING, 1, 0), (0, 5))
        # Two bits for words, one for asks: the word's bits are exchanged where asked 1.
        bits = (2, 1, (("1-0", "-11"), ("-10", "1-1"), ("--1",), ("---",), ("11-",)))
        self.assertEqual([step(bits, word, 0) for word in range(4)], [(0, 2), (1, 2), (2, 2), (3, 6)])
        self.assertEqual([step(bits, word, 1) for word in range(4)], [(0, 3), (2, 3), (1, 3), (3, 7)])

    def test_bits_by_k(self):
        for ones in itertools.product((False, True), repeat=6):
            bits = (3, 1, tuple(("----",) if one else () for one in ones))
            word = sum(2 ** k for k in range(3) if ones[k])
            answer = sum(2 ** k for k in range(3) if ones[3 + k])
            self.assertEqual(step(bits, 5, 1), (word, answer))

    def test_each_word_and_each_ask(self):
        for bits in drawn_bits(161, 120):
            for word, ask in itertools.product(range(2 ** bits[0]), range(2 ** bits[1])):
                self.assertEqual(step(bits, word, ask), brute_step(bits, word, ask))

    def test_nets_without_pieces(self):
        for b, c in itertools.product((1, 2, 3), (0, 1, 2)):
            for word, ask in itertools.product(range(2 ** b), range(2 ** c)):
                self.assertEqual(step((b, c, ((),) * (b + 3)), word, ask), (0, 0))
                self.assertEqual(step((b, c, (("-" * (b + c),) * 2,) * (b + 3)), word, ask), (2 ** b - 1, 7))

    def test_told_is_a_tuple_of_numbers(self):
        told = step(TURNING, 1, 0)
        self.assertIs(type(told), tuple)
        self.assertEqual([type(number) for number in told], [int, int])


class RunTest(unittest.TestCase):

    def test_without_asks(self):
        for bits in drawn_bits(162, 20):
            for word in range(2 ** bits[0]):
                self.assertEqual(bit_run(bits, word, ()), ([], word))

    def test_written_out(self):
        self.assertEqual(bit_run(TURNING, 0, (0,)), ([1], 1))
        self.assertEqual(bit_run(TURNING, 0, (0, 0, 0)), ([1, 5, 1], 1))
        self.assertEqual(bit_run(TURNING, 1, (0,) * 60), ([5, 1] * 30, 1))
        self.assertEqual(bit_run(TURNING, 1, (0,) * 501), ([5, 1] * 250 + [5], 0))

    def test_from_any_word_step_by_step(self):
        draw = random.Random(163)
        for bits in drawn_bits(164, 60):
            for word in range(2 ** bits[0]):
                row = tuple(draw.randrange(2 ** bits[1]) for k in range(60))
                answers, here = [], word
                for ask in row:
                    here, answer = brute_step(bits, here, ask)
                    answers.append(answer)
                told = bit_run(bits, word, row)
                self.assertEqual(told, (answers, here))
                self.assertIs(type(told), tuple)
                self.assertIs(type(told[0]), list)


class FaultTest(unittest.TestCase):

    def test_none(self):
        draw = random.Random(165)
        for machine in (SMALL, FULL, ring([3]), ring([0, 7]), countdown(8), all_open(5, 3), all_open(1, 1)):
            for k in range(5):
                words = draw_words(draw, machine)
                self.assertIsNone(bit_fault(machine, words, right_bits(machine, words)))
                self.assertIsNone(bit_fault(machine, words, nets_for(machine, words)))

    def test_counts_each_alone(self):
        words = (2, 0, 3)
        b, c, nets = bits = right_bits(SMALL, words)
        self.assertEqual((b, c, len(nets)), (2, 1, 5))
        self.assertIsNone(bit_fault(SMALL, words, bits))
        for other in range(10):
            self.assertEqual(bit_fault(SMALL, words, (other, c, nets)), None if other == 2 else ("counts",))
            self.assertEqual(bit_fault(SMALL, words, (b, other, nets)), None if other == 1 else ("counts",))
        # As many bits together, but not as told of the machine: pieces and points are as long.
        for one, other in ((0, 3), (1, 2), (3, 0)):
            self.assertEqual(bit_fault(SMALL, words, (one, other, nets)), ("counts",))
            self.assertEqual(bit_fault(SMALL, words, (one, other, (nets * 2)[:one + 3])), ("counts",))
        for other in ((), nets[:-1], nets[:1], nets + ((),), nets + nets[:1], nets * 2, ((),) * 4, ((),) * 6):
            self.assertEqual(bit_fault(SMALL, words, (b, c, other)), ("counts",))

    def test_counts_of_signs(self):
        words = (2, 0, 3)
        bits = right_bits(SMALL, words)
        for j in range(5):
            for piece in ("", "-", "0", "01", "--", "0000", "----", "0" * 40):
                for net in ((piece,), bits[2][j] + (piece,), (piece,) + bits[2][j]):
                    self.assertEqual(bit_fault(SMALL, words, with_net(bits, j, net)), ("counts",))

    def test_counts_ahead_of_any_net(self):
        words = (2, 0, 3)
        bits = right_bits(SMALL, words)
        wrong = with_net(bits, 0, ("---",))
        self.assertEqual(bit_fault(SMALL, words, wrong), (0, ("has", 0, 2)))
        self.assertEqual(bit_fault(SMALL, words, with_net(wrong, 4, wrong[2][4] + ("--",))), ("counts",))
        self.assertEqual(bit_fault(SMALL, words, (2, 1, wrong[2] + ((),))), ("counts",))
        self.assertEqual(bit_fault(SMALL, words, (3, 1, wrong[2])), ("counts",))
        self.assertEqual(bit_fault(SMALL, words, (2, 0, wrong[2])), ("counts",))

    def test_the_first_net_with_its_fault(self):
        words = (0, 1)
        machine = ring([5, 2])
        self.assertEqual(tables(machine, words), [((0,), (1,)), ((0,), (1,)), ((1,), (0,)), ((0,), (1,))])
        nets = (("0",), ("0",), ("1",), ("0",))
        self.assertIsNone(bit_fault(machine, words, (1, 0, nets)))
        for j in range(4):
            on = nets[j][0]
            bits = with_net((1, 0, nets), j, ())
            self.assertEqual(bit_fault(machine, words, bits), (j, ("lacks", int(on))))
            bits = with_net((1, 0, nets), j, (on, "-"))
            self.assertEqual(bit_fault(machine, words, bits), (j, ("has", 1, 1 - int(on))))
            # All nets behind it are wrong, too.
            bits = (1, 0, nets[:j] + ((on, on, "-"),) + ((),) * (3 - j))
            self.assertEqual(bit_fault(machine, words, bits), (j, ("has", 2, 1 - int(on))))

    def test_drawn_nets(self):
        draw = random.Random(166)
        ends = {}
        for k in range(600):
            machine = draw_machine(draw, draw.randint(1, 8), draw.randint(1, 4), 0.5, 0.5, 8)
            words = draw_words(draw, machine)
            bits = right_bits(machine, words)
            for spoils in range(draw.randint(0, 2)):
                bits = with_net(bits, draw.randrange(len(bits[2])), draw_net(draw, bits[0] + bits[1], 3))
            faults = [(j, net_fault(on, off, net))
                      for j, ((on, off), net) in enumerate(zip(tables(machine, words), bits[2], strict=True))]
            faults = [(j, fault) for j, fault in faults if fault is not None]
            told = bit_fault(machine, words, bits)
            self.assertEqual(told, faults[0] if faults else None)
            ends[told and (told[0], told[1][0])] = True
        self.assertGreater(len(ends), 11)

    def test_too_many_rooms_ahead_of_all_else(self):
        for rooms in (9, 24):
            machine = countdown(rooms)
            for words in (tuple(range(rooms)), (), None, "words", (0, 0)):
                for bits in (TURNING, (9, 9, ()), (3, 0, ((),) * 6)):
                    self.assertRaises(TooMany, bit_fault, machine, words, bits)

    def test_no_words_ahead_of_all_faults(self):
        good = right_bits(SMALL, (0, 1, 2))
        for words in (None, (), [0, 1, 2], (0, 1), (0, 1, 2, 3), (0, 1, 1), (0, 1, 4), (0, 1, -1), (0, True, 2), "012"):
            for bits in (good, TURNING, (9, 9, ()), with_net(good, 0, ()), with_net(good, 0, ("--",))):
                self.assertRaises(NoWords, bit_fault, SMALL, words, bits)
        for thing in ODD_THINGS:
            self.assertRaises(NoWords, bit_fault, SMALL, thing, good)

    def test_nets_of_many_pieces(self):
        words = (1, 0, 2)
        bits = right_bits(FULL, words)
        for j, (on, off) in enumerate(tables(FULL, words)):
            if bits[2][j]:
                self.assertIsNone(bit_fault(FULL, words, with_net(bits, j, (bits[2][j] * 40)[:40])))


class RunsAsRoomsTest(unittest.TestCase):

    def assert_runs_alike(self, machine, words, bits, row):
        """A row that is let is gone by the nets as by the rooms, wherever these tell something."""
        answers, room = run(machine, 0, row)
        said, word = bit_run(bits, words[0], row)
        self.assertEqual(len(said), len(answers))
        for answer, other in zip(answers, said):
            self.assertTrue(answer is None or answer == other)
        if room is not None:
            self.assertEqual(word, words[room])

    def let_beginning(self, machine, row):
        """The longest beginning of a row that is let."""
        return max((row[:many] for many in range(len(row) + 1) if lets(machine, 0, row[:many])), key=len)

    def test_where_no_fault_is_told(self):
        draw = random.Random(167)
        known = 0
        for k in range(150):
            machine = draw_machine(draw, draw.randint(1, 8), draw.randint(1, 4), draw.choice((0, 0.2)), 0.3, 8)
            words = draw_words(draw, machine)
            bits = right_bits(machine, words)
            v = bits[0] + bits[1]
            for (on, off), j in zip(tables(machine, words), range(len(bits[2]))):
                # Whatever has no fault: free points may be said anyhow.
                more = draw.choice(brutenets.all_pieces(v))
                if brutenets.is_free(more, off):
                    bits = with_net(bits, j, bits[2][j] + (more,))
            self.assertIsNone(bit_fault(machine, words, bits))
            for rows in range(8):
                row = self.let_beginning(machine, draw_row(draw, machine[0], 60))
                self.assert_runs_alike(machine, words, bits, row)
                known += len(row) == 60
        self.assertGreater(known, 3)

    def test_all_small_machines_of_bits(self):
        # Two rooms, one ask: all nets of one piece at most, for each table.
        pieces = [(), ("0",), ("1",), ("-",)]
        machine = (1, (((1, 4),), ((1, None),)))
        right = 0
        for nets in itertools.product(pieces, repeat=4):
            for words in ((0, 1), (1, 0)):
                if bit_fault(machine, words, (1, 0, nets)) is None:
                    right += 1
                    for many in range(6):
                        self.assert_runs_alike(machine, words, (1, 0, nets), (0,) * many)
                else:
                    said = [bit_run((1, 0, nets), words[0], (0,) * many) for many in range(4)]
                    self.assertFalse(all(word == words[1] for answers, word in said[1:]) and said[1][0] == [4])
        self.assertGreater(right, 10)
