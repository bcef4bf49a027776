"""[2] what is handed in stays as it was, and what is told is the asker's own."""

import copy
import unittest

from opencells.bitmachines import bit_fault, bit_run
from opencells.choices import nets_for, words_for
from opencells.desk import Desk
from opencells.errors import Clash, NoLine, NotClosed, NotOpen, NoWords
from opencells.fulls import blocks
from opencells.growth import Grown, filled
from opencells.least import least, paper_for
from opencells.lotmachines import lots_fault, made
from opencells.lots import followers, greatest_lots
from opencells.machines import is_machine
from opencells.names import is_order, renamed
from opencells.netpapers import needs_pieces
from opencells.nets import least_net, net_fault
from opencells.papers import needs
from opencells.partings import parted, parting
from opencells.pieces import greatest_pieces
from opencells.runs import lets, reached, run
from opencells.sheets import disagrees, least_of, tree_of
from opencells.sheettexts import read_sheet, show_sheet
from opencells.standing import pairs_fault, stands
from opencells.texts import show_machine
from opencells.tries import tries_for
from opencells.words import is_words, tables
from tests.samples import FULL, SMALL, ring, two_rings

RINGS = two_rings(2, 3)

BITS = (1, 0, (("0",), ("1",), (), ("-",)))

SHEET = [((0, 1, 1), (3, None, 5)), ((1, 1, 0), (None, 0, 0)), ((0, 1), (None, 4))]

# Each asks for something in which a list is told: a call, and where the list stands in what it tells.
TOLD = [
    (lambda machine: run(machine, 0, (0, 0)), lambda told: told[0]),
    (reached, lambda told: told),
    (parted, lambda told: told),
    (greatest_lots, lambda told: told),
    (lambda machine: stands(machine, machine), lambda told: told[1]),
    (lambda machine: tries_for(machine, 24, 300), lambda told: told[1]),
    (least, lambda told: told[1]),
    (lambda machine: blocks(FULL), lambda told: told),
    (lambda machine: least_of(2, SHEET), lambda told: told[1]),
    (lambda machine: tables(machine, tuple(range(len(machine[1])))), lambda told: told),
    (lambda machine: greatest_pieces(3, (3, 5, 6), 0), lambda told: told),
    (lambda machine: bit_run(BITS, 0, (0, 0, 0)), lambda told: told[0]),
    (lambda machine: grown_by_two(machine).fills(), lambda told: told),
    (lambda machine: read_sheet(2, "010 3-7; 1 -"), lambda told: told),
]


def grown_by_two(machine):
    """A grown machine with two fills, which fill nothing."""
    grown = Grown(machine, machine)
    grown.fill(0, 0, machine[1][0][0])
    grown.fill(len(machine[1]) - 1, 0, (None, None))
    return grown


class ToldTest(unittest.TestCase):

    def test_lists_told_are_new_ones(self):
        for ask, list_in in TOLD:
            for machine in (SMALL, FULL, RINGS):
                first, second = ask(machine), ask(machine)
                self.assertEqual(first, second)
                self.assertIs(type(list_in(first)), list)
                self.assertIsNot(list_in(first), list_in(second))

    def test_changed_by_the_asker_they_change_no_later_answer(self):
        for ask, list_in in TOLD:
            for machine in (SMALL, FULL, RINGS):
                expected = copy.deepcopy(ask(machine))
                spoilt = list_in(ask(machine))
                spoilt.clear()
                self.assertEqual(ask(machine), expected)
                list_in(ask(machine)).append("more")
                list_in(ask(machine)).reverse()
                self.assertEqual(ask(machine), expected)

    def test_later_asking_changes_none(self):
        for ask, list_in in TOLD:
            told = ask(SMALL)
            kept = copy.deepcopy(told)
            for machine in (FULL, RINGS, SMALL, ring([1, 2, 3])):
                ask(machine)
            self.assertEqual(told, kept)

    def test_asking_alike_machines_tells_alike(self):
        for ask, list_in in TOLD:
            for machine in (SMALL, FULL, RINGS):
                self.assertEqual(ask(machine), ask(copy.deepcopy(machine)))


class HandedTest(unittest.TestCase):

    def test_lots_stay_as_they_were(self):
        for lots in ([(0,), (1,), (2,)], [(0,), (1,)], [(2,)], [(0, 1)], [[0], [1]], [(1, 0)]):
            kept = copy.deepcopy(lots)
            lots_fault(SMALL, lots)
            try:
                made(SMALL, lots)
            except NotClosed:
                pass
            self.assertEqual(lots, kept)

    def test_lots_are_looked_at_as_they_are_then(self):
        lots = [(0,), (1,), (2,)]
        told = made(SMALL, lots)
        self.assertIsNone(lots_fault(SMALL, lots))
        lots.pop()
        self.assertEqual(lots_fault(SMALL, lots), ("behind", 1, 0))
        self.assertEqual(told, SMALL)
        lots.append((2,))
        lots.append((0,))
        self.assertIsNone(lots_fault(SMALL, lots))
        self.assertEqual(len(made(SMALL, lots)[1]), 4)
        lots[1] = [1]
        self.assertEqual(lots_fault(SMALL, lots), ("shape",))

    def test_a_fault_stays_when_the_list_is_changed(self):
        lots = [(0,), (1,)]
        with self.assertRaises(NotClosed) as caught:
            made(SMALL, lots)
        lots.append((2,))
        self.assertEqual(caught.exception.fault, ("behind", 1, 0))

    def test_pairs_stay_as_they_were(self):
        for pairs in ([(2, 2), (0, 0), (1, 1), (0, 0)], [(0, 0)], [], [[0, 0]], [(0, 0), (1, 2)]):
            kept = copy.deepcopy(pairs)
            pairs_fault(SMALL, SMALL, pairs)
            self.assertEqual(pairs, kept)

    def test_pairs_are_looked_at_as_they_are_then(self):
        pairs = stands(SMALL, SMALL)[1]
        self.assertIsNone(pairs_fault(SMALL, SMALL, pairs))
        pairs.remove((1, 1))
        self.assertEqual(pairs_fault(SMALL, SMALL, pairs), ("behind", 0, 0))
        pairs.append((1, 1))
        self.assertIsNone(pairs_fault(SMALL, SMALL, pairs))
        self.assertEqual(stands(SMALL, SMALL), ("yes", [(0, 0), (1, 1), (2, 2)]))

    def test_lots_that_were_told_may_be_handed_in_and_changed(self):
        count, lots = tries_for(RINGS, 24, 300)
        made(RINGS, lots)
        lots[0] = (1,)
        self.assertEqual(lots_fault(RINGS, lots), ("begin",))
        self.assertIsNone(lots_fault(RINGS, tries_for(RINGS, 24, 300)[1]))

    def test_papers_stay_as_they_were(self):
        paper = paper_for(SMALL, 3)
        for thing in (paper, list(paper), ("tries", list(paper[1])), ("parted", [(0, ())], [[0]]), ["tries", []]):
            kept = copy.deepcopy(thing)
            needs(SMALL, 3, thing)
            self.assertEqual(thing, kept)

    def test_papers_are_looked_at_as_they_are_then(self):
        rows = [(0,)]
        self.assertIs(needs(FULL, 2, ("parted", ((0, ()), (2, (1,))), rows)), False)
        self.assertIs(needs(FULL, 2, ("parted", ((0, ()), (2, (1,))), tuple(rows))), True)

    def test_told_papers_may_be_handed_in_and_lots_changed(self):
        other, lots, paper = least(FULL)
        lots.clear()
        self.assertIs(needs(FULL, 3, paper), True)
        self.assertEqual(least(FULL)[:2], (other, [(0,), (1,), (2,)]))

    def test_long_papers_may_be_handed_in(self):
        # Two rings, of 11 and of 12 rooms, behind room 0: it is late when both say something at once.
        rooms = [((1 + (room + 1) % 11, 0 if room == 10 else None), (None, None)) for room in range(11)]
        rooms += [((12 + (room + 1) % 12, 1 if room == 0 else None), (None, None)) for room in range(12)]
        machine = (2, (((1, None), (12, None)), *rooms))
        paper = paper_for(machine, 2)
        self.assertGreater(len(paper[1][3][0][3][0][4]), 130)
        self.assertIs(needs(machine, 2, paper), True)

    def test_sheets_stay_as_they_were(self):
        for sheet in (SHEET, SHEET[::-1], [], SHEET * 2, [((0,), (1,)), ((0,), (2,))]):
            kept = copy.deepcopy(sheet)
            for ask in (lambda: tree_of(2, sheet), lambda: least_of(2, sheet), lambda: disagrees(FULL, sheet)):
                try:
                    ask()
                except Clash:
                    pass
                self.assertEqual(sheet, kept)

    def test_sheets_are_looked_at_as_they_are_then(self):
        sheet = list(SHEET)
        tree, other = tree_of(2, sheet), least_of(2, sheet)
        sheet.append(((0,), (7,)))
        with self.assertRaises(Clash) as caught:
            tree_of(2, sheet)
        sheet.pop()
        self.assertEqual((caught.exception.row, caught.exception.place), (3, 0))
        self.assertEqual((tree_of(2, sheet), least_of(2, sheet)), (tree, other))
        self.assertIsNone(disagrees(other[0], sheet))

    def test_words_stay_as_they_were(self):
        for words in ([2, 0, 1], [[0], 1, 2], {0: 1}):
            kept = copy.deepcopy(words)
            is_words(SMALL, words)
            self.assertRaises(NoWords, tables, SMALL, words)
            self.assertEqual(words, kept)

    def test_tables_told_may_be_handed_in(self):
        for on, off in tables(SMALL, (2, 0, 1)):
            net, paper = least_net(3, on, off)
            self.assertIsNone(net_fault(on, off, net))
            self.assertEqual(least_net(3, on, off), (net, paper))

    def test_papers_of_nets_stay_as_they_were(self):
        on, off = (1, 2), (0, 3)
        paper = least_net(2, on, off)[1]
        for thing in (paper, list(paper), ("tries", list(paper[1])), ("spread", [1, 2]), ["spread", [[1], 2]]):
            kept = copy.deepcopy(thing)
            self.assertIs(needs_pieces(2, on, off, 2, thing), thing is paper)
            self.assertEqual(thing, kept)

    def test_told_machines_of_bits_may_be_handed_in(self):
        for machine in (SMALL, FULL):
            words, bits, many = words_for(machine)
            self.assertIsNone(bit_fault(machine, words, bits))
            self.assertEqual(nets_for(machine, words), bits)
            answers, word = bit_run(bits, words[0], (0, 1, 0))
            answers.clear()
            self.assertEqual(len(bit_run(bits, words[0], (0, 1, 0))[0]), 3)

    def test_filled_machines_stay_as_they_were(self):
        kept = copy.deepcopy(SMALL)
        grown = Grown(SMALL, SMALL)
        for fill in ((0, 1, (0, 5)), (2, 1, (1, None)), (2, 1, (None, None)), (2, 1, (1, 2))):
            filled(SMALL, *fill)
            grown.fill(*fill)
            self.assertRaises(NotOpen, filled, SMALL, 0, 0, (0, 0))
            self.assertEqual(SMALL, kept)

    def test_told_fills_are_the_askers_own(self):
        grown = Grown(SMALL, SMALL)
        grown.fill(0, 1, (0, 5))
        before = grown.fills()
        before.append((1, 0, (None, None)))
        before[0] = None
        self.assertEqual(grown.fills(), [(0, 1, (0, 5))])
        kept = grown.fills()
        grown.fill(2, 1, (None, 3))
        self.assertEqual(kept, [(0, 1, (0, 5))])
        kept.clear()
        self.assertEqual(grown.fills(), [(0, 1, (0, 5)), (2, 1, (None, 3))])
        told = grown.fills()
        grown.back()
        grown.back()
        self.assertEqual(told, [(0, 1, (0, 5)), (2, 1, (None, 3))])
        self.assertEqual((grown.fills(), grown.machine()), ([], SMALL))

    def test_shown_sheets_stay_as_they_were(self):
        sheet = list(SHEET)
        text = show_sheet(sheet)
        self.assertEqual(sheet, SHEET)
        told = read_sheet(2, text)
        self.assertEqual(told, sheet)
        told.append(((0,), (7,)))
        self.assertEqual(read_sheet(2, text), sheet)
        sheet.pop()
        self.assertEqual(show_sheet(SHEET), text)
        none = read_sheet(2, "none")
        none.append(((0,), (0,)))
        self.assertEqual(read_sheet(2, "none"), [])

    def test_orders_and_machines_stay_as_they_were(self):
        for thing in ([0, 1], [[0], 1], (0, [1]), {0: 1}):
            kept = copy.deepcopy(thing)
            self.assertIs(is_order(thing, 2), False)
            self.assertEqual(thing, kept)
        kept = copy.deepcopy(SMALL)
        renamed(SMALL, (0, 2, 1), (1, 0), tuple(range(8)))
        self.assertEqual(SMALL, kept)

    def test_lines_stay_as_they_were(self):
        desk = Desk()
        for line in (["names"], ["put", "a", [1]], {"names": []}):
            kept = copy.deepcopy(line)
            self.assertRaises(NoLine, desk.say, line)
            self.assertEqual(line, kept)
        desk.say(f"put a {show_machine(SMALL)}")
        told = desk.say("show a")
        desk.say("fill a 0 1 -/5")
        self.assertEqual(told, show_machine(SMALL))

    def test_lists_within_a_thing_stay_as_they_were(self):
        thing = (1, [[[0, 0]]])
        kept = copy.deepcopy(thing)
        is_machine(thing)
        self.assertEqual(thing, kept)

    def test_told_rows_may_be_handed_in(self):
        machine = two_rings(11, 13)
        row = parting(machine, 0, 11)
        self.assertEqual(len(row), 143)
        self.assertTrue(lets(machine, 0, row) and lets(machine, 11, row))
        self.assertNotEqual(run(machine, 0, row)[0][-1], run(machine, 11, row)[0][-1])

    def test_tuples_told_are_tuples(self):
        self.assertIs(type(parting(SMALL, 0, 1)), tuple)
        self.assertIs(type(followers(SMALL, (0, 1), 0)), tuple)
        self.assertIs(type(made(SMALL, [(0,), (1,), (2,)])[1]), tuple)
        for room, row in reached(SMALL):
            self.assertIs(type(row), tuple)
        for lot in greatest_lots(SMALL) + tries_for(SMALL, 24, 300)[1] + least(SMALL)[1] + blocks(FULL):
            self.assertIs(type(lot), tuple)
