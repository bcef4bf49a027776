"""[35] sheets and nets written as texts, and read back."""

import itertools
import random
import unittest

from opencells.errors import Clash, NoText
from opencells.nets import least_net
from opencells.sheets import tree_of
from opencells.sheettexts import read_net, read_sheet, show_net, show_sheet
from tests import brutetexts
from tests.samples import ODD_THINGS, draw_sheet
from tests.test_nets import draw_net, odd_bits
from tests.test_texts import Read


class SheetTest(Read):

    def refuses_sheets(self, asks, texts):
        self.refuses(lambda text: read_sheet(asks, text), texts)

    def test_written_out(self):
        sheet = [((0, 1, 0), (3, None, 7)), ((1,), (None,))]
        self.assertEqual(show_sheet(sheet), "010 3-7; 1 -")
        self.assertEqual(read_sheet(2, "010 3-7; 1 -"), sheet)
        self.assertEqual(read_sheet(4, "010 3-7; 1 -"), sheet)
        self.assertEqual(show_sheet([]), "none")
        self.assertEqual(read_sheet(1, "none"), [])
        self.assertEqual(read_sheet(4, "none"), [])
        self.assertEqual(show_sheet([((0,), (0,))]), "0 0")
        self.assertEqual(show_sheet([((3, 3), (None, None))] * 2), "33 --; 33 --")

    def test_what_is_written_is_read_back(self):
        draw = random.Random(221)
        for k in range(300):
            asks = draw.randint(1, 4)
            sheet = draw_sheet(draw, asks, draw.choice((2, 24)), 12, 8)
            text = show_sheet(sheet)
            self.assertEqual(read_sheet(asks, text), sheet)
            self.assertEqual(brutetexts.read_sheet(asks, text), sheet)
            told = read_sheet(asks, text)
            self.assertIs(type(told), list)
            for row, answers in told:
                self.assertEqual((type(row), type(answers)), (tuple, tuple))

    def test_the_greatest_sheet(self):
        sheet = [((3,) * 12, (7,) * 12)] * 24
        self.assertEqual(read_sheet(4, show_sheet(sheet)), sheet)

    def test_sheets_that_clash_are_read(self):
        sheet = read_sheet(1, "0 1; 0 2")
        self.assertEqual(sheet, [((0,), (1,)), ((0,), (2,))])
        self.assertRaises(Clash, tree_of, 1, sheet)

    def test_too_many_told_rows(self):
        for many in (23, 24):
            self.assertEqual(len(read_sheet(1, "; ".join(["0 1"] * many))), many)
        self.refuses_sheets(1, ["; ".join(["0 1"] * many) for many in (25, 26, 600)])

    def test_told_rows_too_long(self):
        for many in range(1, 13):
            self.assertEqual(read_sheet(1, f"{'0' * many} {'-' * many}"), [((0,) * many, (None,) * many)])
        for many in (13, 14, 60, 1000):
            self.refuses_sheets(1, [f"{'0' * many} {'1' * many}", f"0 0; {'0' * many} {'-' * many}"])

    def test_told_rows_without_asks(self):
        self.refuses_sheets(2, ["- -", "- ", " ", "-", "0 0; - -", "- -; 0 0", "- 0", "0 0; ", "; 0 0", "0 0; ; 0 0", ""])

    def test_answers_not_as_many(self):
        self.refuses_sheets(2, ["0 ", "0 00", "00 0", "01 2", "01 2-3", "0 --", "010 37", "010 3-7-", "0 0; 1 11", "0"])

    def test_asks_not_below_the_count(self):
        for asks in range(1, 5):
            for figure in range(10):
                text = f"0{figure} --; {figure} 7"
                if figure < asks:
                    self.assertEqual(read_sheet(asks, text), [((0, figure), (None, None)), ((figure,), (7,))])
                else:
                    self.refuses_sheets(asks, [text, f"{figure} 0", f"0 0; {figure} 0", f"0{figure} 00"])

    def test_answers_beyond(self):
        self.refuses_sheets(2, ["0 8", "0 9", "01 08", "01 80", "0 a", "0 +", "0 10"])

    def test_each_sign(self):
        for sign in map(chr, range(256)):
            if sign in tuple("01"):
                self.assertEqual(read_sheet(2, f"0{sign} 55"), [((0, int(sign)), (5, 5))])
            else:
                self.refuses_sheets(2, [f"0{sign} 55", f"{sign} 5", f"{sign}0 55"])
            if sign in tuple("01234567"):
                self.assertEqual(read_sheet(2, f"00 5{sign}"), [((0, 0), (5, int(sign)))])
            elif sign != "-":
                self.refuses_sheets(2, [f"00 5{sign}", f"00 {sign}5", f"0 {sign}"])

    def test_blanks_and_other_signs(self):
        self.refuses_sheets(2, ["0  0", " 0 0", "0 0 ", "0 0;1 1", "0 0 ; 1 1", "0 0;  1 1", "0 0; 1 1;", "0 0, 1 1", "0 0;",
                                "0 0\n", "\n0 0", "0\n0", "0 0;\n1 1", "0\t0", "0/0", "00", "0 0 0", "0 0 1 1", "None",
                                "none ", " none", "None", "NONE", "none; 0 0", "0 0; none", "nonenone", "none\n", "[]", "-"])

    def test_signs_of_other_scripts(self):
        for sign in brutetexts.OTHER_SIGNS:
            self.refuses_sheets(4, [f"{sign} 0", f"0 {sign}", f"0{sign}0", f"0 0{sign} 1 1", f"0{sign} 00", f"00 0{sign}"])

    def test_no_text(self):
        for asks in range(1, 5):
            self.refuses_sheets(asks, brutetexts.NO_TEXTS)
            self.refuses_sheets(asks, ODD_THINGS)
            self.refuses_sheets(asks, [[], ["0 0"], ("0 0",), [((0,), (0,))], b"none"])

    def test_spoilt_in_one_place(self):
        long = "0" * 12 + " 1--4567-0123"
        for asks, text in ((2, "010 3-7; 1 -"), (1, "0 0"), (4, "3210 0123; 0 7; 33 --"), (2, "none"), (1, long)):
            self.checks_spoilt(lambda other: read_sheet(asks, other), lambda other: brutetexts.read_sheet(asks, other),
                               [text], 100)


class NetTest(Read):

    def refuses_nets(self, v, texts):
        self.refuses(lambda text: read_net(v, text), texts)

    def test_written_out(self):
        self.assertEqual(show_net(()), "none")
        self.assertEqual(show_net(("1-0",)), "1-0")
        self.assertEqual(show_net(("1-0", "---", "011")), "1-0 + --- + 011")
        self.assertEqual(read_net(3, "1-0 + --- + 011"), ("1-0", "---", "011"))
        self.assertEqual(read_net(1, "-"), ("-",))
        for v in range(1, 6):
            self.assertEqual(read_net(v, "none"), ())

    def test_what_is_written_is_read_back(self):
        draw = random.Random(222)
        for k in range(300):
            v = draw.randint(1, 5)
            net = draw_net(draw, v, draw.choice((2, 40)))
            text = show_net(net)
            self.assertEqual(text, " + ".join(net) if net else "none")
            told = read_net(v, text)
            self.assertEqual(told, net)
            self.assertIs(type(told), tuple)

    def test_in_any_order_and_some_twice(self):
        for net in itertools.product(("0-", "11", "--"), repeat=3):
            self.assertEqual(read_net(2, show_net(net)), net)
        self.assertEqual(read_net(2, " + ".join(["10"] * 40)), ("10",) * 40)

    def test_least_nets(self):
        for v in range(1, 6):
            net = least_net(v, *odd_bits(v))[0]
            self.assertEqual(read_net(v, show_net(net)), net)

    def test_too_many_pieces(self):
        for v in range(1, 6):
            for many in (1, 39, 40):
                self.assertEqual(read_net(v, " + ".join(["-" * v] * many)), ("-" * v,) * many)
            self.refuses_nets(v, [" + ".join(["-" * v] * many) for many in (41, 42, 600)])

    def test_pieces_of_other_than_v_signs(self):
        for v in range(1, 6):
            for many in range(8):
                text = "0" * many
                if many == v:
                    self.assertEqual(read_net(v, text), (text,))
                else:
                    piece = "-" * v
                    self.refuses_nets(v, [text, f"{piece} + {text}", f"{text} + {piece}", f"{piece} + {text} + {piece}"])

    def test_each_sign(self):
        for sign in map(chr, range(256)):
            if sign in "01-":
                self.assertEqual(read_net(2, f"1{sign}"), (f"1{sign}",))
                self.assertEqual(read_net(1, sign), (sign,))
            else:
                self.refuses_nets(2, [f"1{sign}", f"{sign}1", f"-- + 0{sign}"])
                self.refuses_nets(1, [sign])

    def test_none_is_no_piece(self):
        self.refuses_nets(4, ["none + none", "none + 0000", "0000 + none", "none ", " none", "None", "NONE", "none\n", "nono"])

    def test_blanks_and_other_signs(self):
        self.refuses_nets(2, ["", " ", "+", " + ", "10 +", "10 + ", "+ 10", " + 10", "10+01", "10 +01", "10+ 01", "10  + 01",
                              "10 +  01", " 10", "10 ", "10 01", "10 + + 01", "10 | 01", "10; 01", "12", "1a", "1.", "10\n",
                              "\n10", "10 +\n01", "10\n+ 01", "1\n", "()", "0b", "1_"])

    def test_signs_of_other_scripts(self):
        for sign in brutetexts.OTHER_SIGNS:
            self.refuses_nets(2, [f"1{sign}", f"{sign}1", f"10 {sign} 01", f"10 + 0{sign}", f"10{sign}+ 01"])

    def test_no_text(self):
        for v in range(1, 6):
            self.refuses_nets(v, brutetexts.NO_TEXTS)
            self.refuses_nets(v, [thing for thing in ODD_THINGS if (thing, v) != ("0", 1)])
            self.refuses_nets(v, [("-" * v,), ["-" * v], (), b"none"])

    def test_spoilt_in_one_place(self):
        for v, text in ((3, "1-0 + --- + 011"), (1, "0"), (2, "none"), (4, "0000 + ----"), (5, "01-01")):
            self.checks_spoilt(lambda other: read_net(v, other), lambda other: brutetexts.read_net(v, other), [text], 30)

    def test_long_texts(self):
        self.refuses_nets(3, ["0" * 4000, "000 + " * 600, " + " * 1300, "-" * 60000])
