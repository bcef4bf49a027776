"""[35] cells, machines and rows written as texts, and read back."""

import itertools
import random
import unittest

from opencells.errors import NoText
from opencells.machines import is_machine
from opencells.partings import parting
from opencells.standing import stands
from opencells.texts import read_cell, read_machine, read_row, show_cell, show_machine, show_row
from tests import brutetexts
from tests.samples import FULL, ODD_THINGS, SMALL, draw_machine, drawn, ring, two_rings
from tests.test_words import all_open

GOES = [None] + list(range(24))
SAYS = [None] + list(range(8))


class Read(unittest.TestCase):

    def check(self, read, text, expected):
        """A text is read as expected; refused where that is None."""
        if expected is None:
            self.assertRaises(NoText, read, text)
        else:
            self.assertEqual(read(text), expected, text)

    def refuses(self, read, texts):
        for text in texts:
            with self.assertRaises(NoText, msg=repr(text)):
                read(text)

    def checks_spoilt(self, read, brute_read, texts, least_wrong):
        """Each text spoilt in one place is read as the pattern says."""
        wrong = 0
        for text in texts:
            self.assertIsNotNone(brute_read(text))
            for other in brutetexts.spoilt_texts(text):
                expected = brute_read(other)
                self.check(read, other, expected)
                wrong += expected is None
        self.assertGreater(wrong, least_wrong)


class CellTest(Read):

    def test_written_out(self):
        self.assertEqual(show_cell((2, 5)), "2/5")
        self.assertEqual(show_cell((None, 0)), "-/0")
        self.assertEqual(show_cell((23, None)), "23/-")
        self.assertEqual(show_cell((None, None)), "-/-")
        self.assertEqual(show_cell((0, 0)), "0/0")
        self.assertEqual(read_cell("2/5"), (2, 5))
        self.assertEqual(read_cell("-/0"), (None, 0))
        self.assertEqual(read_cell("23/7"), (23, 7))

    def test_all_cells(self):
        for cell in itertools.product(GOES, SAYS):
            text = "/".join("-" if part is None else str(part) for part in cell)
            self.assertEqual(show_cell(cell), text)
            self.assertEqual(read_cell(text), cell)
            self.assertIs(type(read_cell(text)), tuple)

    def test_beyond(self):
        self.refuses(read_cell, ["24/0", "25/-", "99/0", "100/0", "0/8", "0/9", "-/10", "24/8", "0/-1", "-1/0"])

    def test_noughts_ahead(self):
        self.refuses(read_cell, ["00/0", "01/0", "0/00", "0/07", "023/7", "-/00", "00/-", "--/0", "0/--", "-0/0", "0/-0"])

    def test_other_signs(self):
        self.refuses(read_cell, ["", "/", "0", "0/", "/0", "0//0", "0/0/", "/0/0", "0/0/0", "0|0", "0\\0", " 0/0", "0/0 ",
                                 "0 /0", "0/ 0", "0/0\n", "\n0/0", "0\n/0", "+1/0", "1_1/0", "1.0/0", "a/0", "0/a", "-",
                                 "None/0", "0/None", "(0, 0)", "0,0", "1e1/0", "0x1/0", "\t0/0"])

    def test_each_sign(self):
        for sign in map(chr, range(256)):
            for text in (f"{sign}/0", f"0/{sign}", f"1{sign}/1", f"0{sign}0"):
                self.check(read_cell, text, brutetexts.read_cell(text))

    def test_signs_of_other_scripts(self):
        for sign in brutetexts.OTHER_SIGNS:
            self.refuses(read_cell, [f"{sign}/0", f"0/{sign}", f"1{sign}/0", f"0{sign}0", f"0/0{sign}", f"{sign}0/0"])

    def test_no_text(self):
        self.refuses(read_cell, brutetexts.NO_TEXTS)
        self.refuses(read_cell, ODD_THINGS)

    def test_spoilt_in_one_place(self):
        self.checks_spoilt(read_cell, brutetexts.read_cell, ["2/5", "-/0", "23/-", "10/7", "-/-", "19/1"], 600)

    def test_long_texts(self):
        self.refuses(read_cell, ["0" * 4000, "0/" * 2000, "/" * 4000, "1" * 60000 + "/0", "-/" + "7" * 4000])


class MachineTest(Read):

    def test_written_out(self):
        machine = (2, (((0, 1), (None, 3)), ((1, None), (None, None))))
        self.assertEqual(show_machine(machine), "2: 0/1 -/3 | 1/- -/-")
        self.assertEqual(read_machine("2: 0/1 -/3 | 1/- -/-"), machine)
        self.assertEqual(show_machine((1, (((None, None),),))), "1: -/-")
        self.assertEqual(show_machine(ring([7])), "1: 0/7")
        self.assertEqual(show_machine(ring([7, 0])), "1: 1/7 | 0/0")
        self.assertEqual(show_machine(all_open(1, 4)), "4: -/- -/- -/- -/-")
        self.assertEqual(show_machine(SMALL), "2: 1/0 0/- | 2/1 -/3 | 0/0 -/-")

    def test_what_is_written_is_read_back(self):
        draw = random.Random(211)
        machines = drawn(212, 200, 24, 4, 8) + [SMALL, FULL, all_open(24, 4), two_rings(11, 13)]
        machines += [draw_machine(draw, 24, 4, 0, 0, 8)]
        for machine in machines:
            text = show_machine(machine)
            self.assertEqual(text, f"{machine[0]}:" + " |".join(
                "".join(f" {'-' if goes is None else goes}/{'-' if says is None else says}" for goes, says in room)
                for room in machine[1]))
            self.assertEqual(read_machine(text), machine)
            self.assertTrue(is_machine(read_machine(text)))
            self.assertEqual(brutetexts.read_machine(text), machine)

    def test_rooms_beyond(self):
        for rooms in range(1, 25):
            text = "1: " + " | ".join([f"{rooms - 1}/0"] * rooms)
            self.assertEqual(read_machine(text), (1, (((rooms - 1, 0),),) * rooms))
            self.refuses(read_machine, [text.replace(f" {rooms - 1}/0", f" {rooms}/0", 1), text + f" | {rooms + 1}/-"])

    def test_answers_beyond(self):
        self.refuses(read_machine, ["1: 0/8", "1: 0/10", "2: 0/0 0/9", "1: 0/0 | 0/8"])

    def test_unlike_counts_of_cells(self):
        self.refuses(read_machine, ["2: 0/0", "1: 0/0 0/0", "2: 0/0 0/0 | 0/0", "2: 0/0 | 0/0 0/0", "1: 0/0 0/0 | 0/0",
                                    "2: 0/0 | 0/0", "3: 0/0 0/0", "4: 0/0 0/0 0/0", "2: 0/0 0/0 0/0 | 0/0",
                                    "2: 0/0 0/0 0/0 0/0"])

    def test_too_many_rooms(self):
        self.assertEqual(len(read_machine("1: " + " | ".join(["23/-"] * 24))[1]), 24)
        self.refuses(read_machine, ["1: " + " | ".join(["0/-"] * many) for many in (25, 26, 100, 600)])

    def test_asks(self):
        for asks in range(1, 5):
            self.assertEqual(read_machine(f"{asks}:" + " -/-" * asks), all_open(1, asks))
        self.refuses(read_machine, ["5: -/- -/- -/- -/- -/-", "0: -/-", "0: ", "0:", "-: -/-", "01: -/-", "1 : -/-",
                                    ": -/-", "-1: -/-", "10: -/-", "+1: -/-", "0: | ", "0:  | "])

    def test_no_room(self):
        self.refuses(read_machine, ["1:", "1: ", "1", "", "1: |", "1: 0/0 |", "1: 0/0 | ", "1: | 0/0", "1:  | 0/0",
                                    "1: 0/0 | | 0/0", "1: 0/0 |  | 0/0", "2: | "])

    def test_blanks_more_or_fewer(self):
        self.refuses(read_machine, ["1:0/0", "1:  0/0", " 1: 0/0", "1: 0/0 ", "2: 0/0  0/0", "2: 0/00/0", "1: 0/0| 0/0",
                                    "1: 0/0 |0/0", "1: 0/0|0/0", "1: 0/0  | 0/0", "1: 0/0 |  0/0", "1 : 0/0", "1: 0 /0"])

    def test_line_feeds_and_other_signs(self):
        self.refuses(read_machine, ["1: 0/0\n", "\n1: 0/0", "1:\n0/0", "1: 0/0\n| 0/0", "1: 0/0 |\n0/0", "1:\t0/0",
                                    "2: 0/0\n0/0", "1; 0/0", "1: 0/0 ; 0/0", "1: 0/0 / 0/0", "1: 0/0 || 0/0", "1: 1: 0/0",
                                    "1: 0/0: ", "1: 0/0 | 1: 0/0", "2: 0/0, 0/0"])

    def test_no_text(self):
        self.refuses(read_machine, brutetexts.NO_TEXTS)
        self.refuses(read_machine, ODD_THINGS)
        self.refuses(read_machine, [SMALL, ("2: 0/0 0/0",), ["1: 0/0"], b"1: 0/0"])

    def test_spoilt_in_one_place(self):
        texts = ["2: 0/1 -/3 | 1/- -/-", "1: 0/7", "1: 1/7 | 0/0", "3: -/- 2/5 0/- | 1/- -/1 -/- | 2/2 1/1 0/0"]
        self.checks_spoilt(read_machine, brutetexts.read_machine, texts, 3000)

    def test_long_texts(self):
        self.refuses(read_machine, ["1: " + "0/0 " * 900, "1: " + "| " * 1900, "1" * 4000, ":" * 4000, "1: " + "0" * 60000])


class RowTest(Read):

    def test_written_out(self):
        self.assertEqual(show_row(()), "-")
        self.assertEqual(show_row((0,)), "0")
        self.assertEqual(show_row((0, 1, 0)), "010")
        self.assertEqual(show_row((3, 2, 1, 0)), "3210")
        self.assertEqual(read_row(1, "-"), ())
        self.assertEqual(read_row(4, "-"), ())
        self.assertEqual(read_row(2, "010"), (0, 1, 0))
        self.assertEqual(read_row(4, "3210"), (3, 2, 1, 0))
        self.assertEqual(read_row(1, "000"), (0, 0, 0))

    def test_all_short_rows(self):
        for asks in range(1, 5):
            for many in range(5):
                for row in itertools.product(range(asks), repeat=many):
                    self.assertEqual(show_row(row), "".join(map(str, row)) or "-")
                    self.assertEqual(read_row(asks, show_row(row)), row)
                    self.assertIs(type(read_row(asks, show_row(row))), tuple)

    def test_long_rows(self):
        draw = random.Random(213)
        for many in (59, 60, 61, 143, 552, 600, 3900):
            for asks in range(1, 5):
                row = tuple(draw.randrange(asks) for k in range(many))
                self.assertEqual(show_row(row), "".join(map(str, row)))
                self.assertEqual(read_row(asks, show_row(row)), row)

    def test_told_rows_of_some_hundred(self):
        row = parting(two_rings(11, 13), 0, 11)
        self.assertEqual(len(row), 143)
        self.assertEqual(read_row(1, show_row(row)), row)
        row = stands((1, (((1, None),),) + two_rings(11, 12)[1]), ring([0] * 24))
        self.assertEqual(row[0], "yes")
        row = stands(ring([0] * 22 + [1]), ring([0] * 23 + [1]))[1]
        self.assertEqual(read_row(1, show_row(row)), row)

    def test_asks_not_below_the_count(self):
        for asks in range(1, 5):
            for figure in range(10):
                for text in (f"{figure}", f"0{figure}", f"{figure}0", f"00{figure}00"):
                    if figure < asks:
                        self.assertEqual(read_row(asks, text), tuple(map(int, text)))
                    else:
                        self.refuses(lambda text: read_row(asks, text), [text])

    def test_what_is_no_row(self):
        texts = ["", "--", "-0", "0-", "0-0", " ", " 0", "0 ", "0 0", "0,0", "0\n", "\n", "-\n", "a", "none", "()", "+0",
                 "0_0", "0.0", "None", "-" * 100, "0" * 100 + "4", "0" * 100 + " "]
        for asks in range(1, 5):
            self.refuses(lambda text: read_row(asks, text), texts)

    def test_each_sign(self):
        for sign in map(chr, range(256)):
            for text in (sign, f"0{sign}", f"{sign}0", sign * 2):
                self.check(lambda text: read_row(3, text), text, brutetexts.read_row(3, text))

    def test_signs_of_other_scripts(self):
        for sign in brutetexts.OTHER_SIGNS:
            self.refuses(lambda text: read_row(4, text), [sign, "0" + sign, sign + "0", "01" + sign + "2"])

    def test_no_text(self):
        for asks in range(1, 5):
            self.refuses(lambda text: read_row(asks, text), brutetexts.NO_TEXTS)
            self.refuses(lambda text: read_row(asks, text),
                         [thing for thing in ODD_THINGS if not isinstance(thing, str) or thing != "0"])

    def test_spoilt_in_one_place(self):
        for asks in range(1, 5):
            for text in ("0", "-", "0" * 12, "010" if asks > 1 else "00", "3210" if asks > 3 else "000"):
                self.checks_spoilt(lambda text: read_row(asks, text), lambda text: brutetexts.read_row(asks, text),
                                   [text], 20)
