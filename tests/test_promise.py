"""[3] what the parts promise together: what fits, what closed lots make, what pairs show."""

import itertools
import random
import unittest

from opencells.bitmachines import bit_fault, bit_run
from opencells.choices import nets_for, words_for
from opencells.desk import Desk
from opencells.errors import Clash, NotOpen, TooMany
from opencells.fulls import is_full, shrunk
from opencells.growth import Grown
from opencells.least import least
from opencells.lotmachines import lots_fault, made
from opencells.lots import fits, greatest_lots
from opencells.machines import is_machine
from opencells.namings import naming
from opencells.netpapers import needs_pieces
from opencells.nets import least_net
from opencells.papers import needs
from opencells.partings import parting
from opencells.runs import lets, run
from opencells.sheets import disagrees, least_of, tree_of
from opencells.sheettexts import read_net, read_sheet, show_net, show_sheet
from opencells.standing import pairs_fault, stands
from opencells.texts import read_machine, read_row, show_cell, show_machine, show_row
from opencells.tries import tries_for
from opencells.words import bits_of, tables
from tests import brute
from tests.samples import draw_machine, draw_row, draw_sheet, draw_sheet_of, drawn, drawn_likeness


def close(machine, lots):
    """Lots with all that must stand behind them put at the end, merged into greater ones where they lie in one."""
    lots = list(lots)
    for lot in lots:
        for ask in range(machine[0]):
            behind = {machine[1][room][ask][0] for room in lot} - {None}
            if behind and not any(behind <= set(other) for other in lots):
                lots.append(tuple(sorted(behind)))
    return lots


class PromiseTest(unittest.TestCase):

    def assert_answers_alike(self, machine, other, row):
        """At each ask of the row that the machine lets, the other one says and leads on as it does."""
        for many in range(1, len(row) + 1):
            part = row[:many]
            if not lets(machine, 0, part):
                return
            answers, room = run(machine, 0, part)
            self.assertTrue(answers[-1] is None or lets(other, 0, part))
            other_answers, other_room = run(other, 0, part)
            self.assertTrue(answers[-1] is None or other_answers[-1] == answers[-1])
            self.assertTrue(room is None or other_room is not None)

    def assert_stands(self, draw, machine, other):
        verdict, pairs = stands(machine, other)
        self.assertEqual(verdict, "yes")
        self.assertIsNone(pairs_fault(machine, other, pairs))
        for k in range(10):
            self.assert_answers_alike(machine, other, draw_row(draw, machine[0], 40))

    def test_two_rooms_fit_just_where_no_row_parts_them(self):
        for machine in drawn(31, 60, 10, 3):
            for pair in itertools.product(range(len(machine[1])), repeat=2):
                self.assertIs(fits(machine, pair), parting(machine, *pair) is None)

    def test_closed_lots_make_machines_that_stand(self):
        draw = random.Random(32)
        for machine in drawn(32, 150, 8, 3):
            begin = draw.choice([lot for lot in greatest_lots(machine) if 0 in lot])
            lots = close(machine, [begin])
            if len(lots) > 24:
                continue
            self.assertIsNone(lots_fault(machine, lots))
            other = made(machine, lots)
            self.assertTrue(is_machine(other))
            self.assert_stands(draw, machine, other)

    def test_all_greatest_lots_make_a_machine_that_stands(self):
        draw = random.Random(33)
        for machine in drawn(33, 100, 6, 2):
            lots = sorted(greatest_lots(machine), key=lambda lot: 0 not in lot)
            if len(lots) <= 24:
                self.assertIsNone(lots_fault(machine, lots))
                self.assert_stands(draw, machine, made(machine, lots))

    def test_tries_that_come_out_make_machines_that_stand(self):
        draw = random.Random(34)
        for machine in drawn(34, 150, 9, 3):
            for m in (1, 2, 3, 24):
                try:
                    lots = tries_for(machine, m, 300)[1]
                except TooMany:
                    continue
                if lots is not None:
                    self.assert_stands(draw, machine, made(machine, lots))

    def test_where_no_try_comes_out_no_machine_of_so_few_rooms_stands(self):
        draw = random.Random(35)
        looked = 0
        for k in range(100):
            machine = draw_machine(draw, draw.randint(2, 6), 1, 0, 0.2)
            if tries_for(machine, 2, 300)[1] is None:
                cells = [(goes, says) for goes in range(2) for says in range(2)]
                for rooms in itertools.product(cells, repeat=2):
                    other = (1, tuple((cell,) for cell in rooms))
                    self.assertEqual(stands(machine, other)[0], "no")
                looked += 1
        self.assertGreater(looked, 10)

    def test_whatever_pairs_have_no_fault(self):
        draw = random.Random(36)
        shown = 0
        for machine in drawn(36, 400, 5, 2):
            other = drawn_likeness(draw, machine)
            pairs = [(room, room) for room in range(len(machine[1]))]
            pairs += [(draw.randrange(len(machine[1])), draw.randrange(len(other[1]))) for k in range(draw.randint(0, 1))]
            draw.shuffle(pairs)
            if pairs_fault(machine, other, pairs) is None:
                shown += 1
                self.assert_stands(draw, machine, other)
        self.assertGreater(shown, 50)

    def test_where_it_does_not_stand_no_pairs_show_it_and_the_row_fails(self):
        draw = random.Random(37)
        for machine in drawn(37, 100, 3, 2):
            other = draw_machine(draw, 2, machine[0])
            verdict, row = stands(machine, other)
            if verdict == "no":
                self.assertTrue(brute.fails_at(machine, other, row))
                pairs = list(itertools.product(range(len(machine[1])), range(2)))
                for many in range(len(pairs) + 1):
                    for some in itertools.combinations(pairs, many):
                        self.assertIsNotNone(pairs_fault(machine, other, list(some)))

    def test_least_machines_stand_and_a_paper_shows_that_none_of_fewer_rooms_does(self):
        draw = random.Random(38)
        shown = 0
        for machine in drawn(38, 150, 9, 3):
            try:
                other, lots, paper = least(machine)
            except TooMany:
                continue
            self.assert_stands(draw, machine, other)
            self.assertEqual(paper is None, len(lots) == 1)
            if paper is not None:
                self.assertTrue(needs(machine, len(lots), paper))
                # A machine of so few rooms is itself one in its place, so it has no such paper for more.
                self.assertFalse(needs(other, len(lots) + 1, paper))
                shown += 1
        self.assertGreater(shown, 30)

    def test_where_nothing_is_open_it_is_the_one_machine_but_for_names(self):
        draw = random.Random(39)
        for k in range(60):
            machine = draw_machine(draw, draw.randint(1, 8), draw.randint(1, 2), 0, 0)
            try:
                other = least(machine)[0]
            except TooMany:
                continue
            self.assertTrue(is_full(other))
            self.assert_stands(draw, machine, shrunk(machine))
            names = naming(shrunk(machine), other)
            self.assertEqual(sorted(names), list(range(len(other[1]))))

    def test_of_told_rows_the_least_machine_agrees_with_all(self):
        draw = random.Random(40)
        agreed = 0
        for k in range(200):
            asks = draw.randint(1, 3)
            sheet = draw_sheet(draw, asks, 4, 6, 2, 0.5)
            try:
                other, lots, paper = least_of(asks, sheet)
            except (Clash, TooMany):
                continue
            self.assertIsNone(disagrees(other, sheet))
            self.assertTrue(paper is None or needs(tree_of(asks, sheet), len(lots), paper))
            agreed += 1
        self.assertGreater(agreed, 50)

    def test_a_hidden_machine_agrees_with_what_is_told_of_it_and_has_no_fewer_rooms(self):
        draw = random.Random(41)
        for k in range(100):
            hidden = draw_machine(draw, draw.randint(1, 4), draw.randint(1, 2), 0, 0)
            sheet = draw_sheet_of(draw, hidden, 3, 6)
            self.assertIsNone(disagrees(hidden, sheet))
            self.assertLessEqual(len(least_of(hidden[0], sheet)[1]), len(hidden[1]))

    def test_least_nets_for_words_run_as_the_rooms_do(self):
        draw = random.Random(42)
        for k in range(60):
            machine = draw_machine(draw, draw.randint(1, 8), draw.randint(1, 2), 0.2, 0.2, 8)
            b, c = bits_of(machine)
            words = tuple(draw.sample(range(1 << b), len(machine[1])))
            bits = nets_for(machine, words)
            self.assertIsNone(bit_fault(machine, words, bits))
            for net, (on, off) in zip(bits[2], tables(machine, words), strict=True):
                told, paper = least_net(b + c, on, off)
                self.assertEqual(told, net)
                # None of fewer pieces is right, by its paper.
                self.assertTrue(paper is None if net == () else needs_pieces(b + c, on, off, len(net), paper))
            for rows in range(10):
                row = draw_row(draw, machine[0], 40)
                row = row[:len(run(machine, 0, row)[0])]
                answers, room = run(machine, 0, row)
                said, word = bit_run(bits, words[0], row)
                self.assertEqual([other for answer, other in zip(answers, said, strict=True) if answer is not None],
                                 [answer for answer in answers if answer is not None])
                self.assertTrue(room is None or words[room] == word)

    def test_a_filled_cell_leaves_a_standing_machine_standing_or_a_row_is_told(self):
        draw = random.Random(43)
        ends = {"stands": 0, "fails": 0}
        for machine in drawn(44, 80, 6, 2):
            try:
                other = least(machine)[0]
            except TooMany:
                continue
            grown = Grown(machine, other)
            for k in range(6):
                room, ask = draw.randrange(len(machine[1])), draw.randrange(machine[0])
                try:
                    row = grown.fill(room, ask, (draw.randrange(len(machine[1])), draw.choice((None, 0, 1))))
                except NotOpen:
                    continue
                if row is None:
                    self.assert_stands(draw, grown.machine(), other)
                    ends["stands"] += 1
                else:
                    self.assertTrue(brute.fails_at(grown.machine(), other, row))
                    ends["fails"] += 1
                    if draw.random() < 0.7:
                        grown.back()
                # What was filled is still to be met, and what was told ahead of it.
                self.assert_stands(draw, machine, grown.machine())
        self.assertTrue(min(ends.values()) > 30, ends)

    def check_bits(self, sheet, words, bits):
        """Nets run from the word of room 0 say all that is told."""
        for row, answers in sheet:
            said = bit_run(bits, words[0], row)[0]
            self.assertEqual([other for answer, other in zip(answers, said, strict=True) if answer is not None],
                             [answer for answer in answers if answer is not None])

    def test_from_told_rows_to_the_least_machine_its_words_and_nets_and_their_run(self):
        draw = random.Random(45)
        chosen = 0
        for k in range(120):
            hidden = draw_machine(draw, draw.randint(1, 5), draw.randint(1, 3), 0, 0, 3)
            sheet = draw_sheet_of(draw, hidden, 4, 7)
            try:
                other, lots, paper = least_of(hidden[0], sheet)
            except TooMany:
                continue
            words = tuple(draw.sample(range(1 << bits_of(other)[0]), len(other[1])))
            self.check_bits(sheet, words, nets_for(other, words))
            if len(other[1]) <= 4 and other[0] <= 2:
                words, bits, many = words_for(other)
                self.check_bits(sheet, words, bits)
                self.assertIsNone(bit_fault(other, words, bits))
                chosen += len(other[1]) > 1
        self.assertGreater(chosen, 15)

    def test_the_same_by_the_desk(self):
        draw = random.Random(46)
        chosen = 0
        for k in range(80):
            hidden = draw_machine(draw, draw.randint(1, 4), draw.randint(1, 2), 0, 0, 8)
            sheet = draw_sheet_of(draw, hidden, 4, 6)
            desk = Desk()
            desk.say(f"sheet tree {hidden[0]} {show_sheet(sheet)}")
            desk.say("least tree small")
            self.assertEqual(desk.say("stands tree small"), "yes")
            small = read_machine(desk.say("show small"))
            self.assertEqual((read_machine(desk.say("show tree")), small), (tree_of(hidden[0], sheet),
                                                                            least_of(hidden[0], sheet)[0]))
            for row, answers in sheet:
                said = desk.say(f"run small {show_row(row)}").split(" ")[0]
                self.assertTrue(all(answer in (None, int(sign)) for answer, sign in zip(answers, said, strict=True)
                                    if answer is not None))
            words, colon, many = desk.say("words small").partition(" : ")
            nets = desk.say(f"nets small {words}").split(" | ")
            b, c = bits_of(small)
            bits = (b, c, tuple(read_net(b + c, net) for net in nets))
            numbers = tuple(int(word) for word in words.split(" "))
            self.assertIsNone(bit_fault(small, numbers, bits))
            self.assertEqual(int(many), sum(len(net) for net in bits[2]))
            self.check_bits(sheet, numbers, bits)
            chosen += len(numbers) > 1
        self.assertGreater(chosen, 15)

    def test_cells_filled_later_by_the_desk_and_by_a_grown_machine(self):
        draw = random.Random(47)
        ends = {"yes": 0, "no": 0, "refused": 0}
        for machine in drawn(48, 60, 5, 2):
            desk = Desk()
            desk.say(f"put m {show_machine(machine)}")
            desk.say("least m small")
            grown = Grown(machine, read_machine(desk.say("show small")))
            for k in range(8):
                room, ask = draw.randrange(len(machine[1])), draw.randrange(machine[0])
                cell = (draw.choice((None, draw.randrange(len(machine[1])))), draw.choice((None, 0, 1)))
                line = f"fill m {room} {ask} {show_cell(cell)}"
                try:
                    row = grown.fill(room, ask, cell)
                except NotOpen:
                    self.assertRaises(NotOpen, desk.say, line)
                    ends["refused"] += 1
                    continue
                self.assertEqual(desk.say(line), "ok")
                self.assertEqual(read_machine(desk.say("show m")), grown.machine())
                self.assertEqual(desk.say("stands m small"), "yes" if row is None else f"no {show_row(row)}")
                ends["yes" if row is None else "no"] += 1
        self.assertTrue(min(ends.values()) > 20, ends)

    def test_what_is_written_is_read_back(self):
        draw = random.Random(49)
        for machine in drawn(50, 60, 8, 3, 8):
            self.assertEqual(read_machine(show_machine(machine)), machine)
            other = drawn_likeness(draw, machine)
            verdict, shown = stands(machine, other)
            if verdict == "no":
                self.assertEqual(read_row(machine[0], show_row(shown)), shown)
            sheet = draw_sheet_of(draw, machine, 5, 8)
            sheet = [told for told in sheet if told[0]]
            self.assertEqual(read_sheet(machine[0], show_sheet(sheet)), sheet)
            words = tuple(range(len(machine[1])))
            try:
                b, c, nets = nets_for(machine, words)
            except TooMany:
                continue
            self.assertEqual(tuple(read_net(b + c, show_net(net)) for net in nets), nets)
