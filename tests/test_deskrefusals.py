"""[36] what the desk refuses, in which order, and that it changes nothing."""

import itertools
import unittest

from opencells.errors import Clash, NoLine, NoName, NotOpen, NoText, NoWords, TooMany, Unlike
from opencells.texts import show_machine
from tests.brutetexts import NO_TEXTS, OTHER_SIGNS
from tests.samples import ODD_THINGS, SMALL, countdown, ring
from tests.test_choices import machine_of_table
from tests.test_desk import desk_with, state_of
from tests.test_nets import ONE_MORE_TOGETHER

MACHINES = {
    "a": SMALL,
    "one": ring([0, 1, 2]),
    "nine": countdown(9),
    "thirteen": countdown(13),
    "many": countdown(24),
    "hard": machine_of_table(*ONE_MORE_TOGETHER[0]),
}

# For each line all its words, with right ones and wrong ones.
LINES = {
    "put": "new machine", "sheet": "new asks sheet", "least": "name new", "fill": "name room ask cell", "copy": "name new",
    "drop": "name", "show": "name", "names": "", "run": "name row", "part": "name room room", "stands": "name name",
    "reached": "name", "lots": "name", "words": "name", "nets": "name words",
}

RIGHT = {
    "new": ["b", "abcdefgh", "a", "names"],
    "name": ["a"],
    "room": ["0", "2"],
    "ask": ["0", "1"],
    "asks": ["1", "4"],
    "row": ["-", "0110"],
    "cell": ["-/-"],
    "machine": ["1: 0/0", "2: 0/0 -/- | 1/7 -/5"],
    "sheet": ["none", "0 1; 00 -7"],
    "words": ["0 1 2", "3 2 1"],
}

WRONG = {
    "new": ["", "abcdefghi", "B", "aB", "b1", "1", "b-", "-", "b\n", "\nb", "b.", "\u00e9", "b\u0661"],
    "name": ["", "abcdefghi", "A", "aA", "a1", "1", "a-", "-", "a\n", "\na", "b", "aa", "none", "a\u00a0"],
    "room": ["", "3", "00", "02", "10", "99", "100", "-", "-1", "+1", "x", "1\n", "a", "0/0", "\u0661", "1_0", "1.0"],
    "ask": ["", "2", "3", "00", "01", "10", "-", "-0", "x", "0\n", "\u0660"],
    "asks": ["", "0", "5", "01", "10", "-", "x", "1:", "2\n", "\u0661"],
    "row": ["", "2", "012", "--", "0-", "none", "0,1", "01\n", "\u0661", "a"],
    "cell": ["", "-", "0", "3/-", "23/0", "24/0", "0/8", "00/0", "0/00", "-/-/-", "0/0\n", "/", "\u0661/0"],
    "machine": ["", "1:", "1: ", "1: 1/0", "2: 0/0", "5: 0/0 0/0 0/0 0/0 0/0", " 1: 0/0", "1: 0/0 ", "1: 0/0\n", "none",
                "1:  0/0", "1: 0/0 |", "1: \u0661/0", "1: " + " | ".join(["0/0"] * 25)],
    "sheet": ["", "none ", " none", "4 0", "0", "0 8", "0 00", "- -", "0 0;0 0", "0 0; ", "0 0 0", "0 0\n", "\u0661 0",
              "; ".join(["0 0"] * 25), "0" * 13 + " " + "0" * 13],
    "words": ["", "0 1 ", " 0 1 2", "0  1 2", "0 1 x", "x", "00 1 2", "0 01 2", "0 1 100", "0 1 -", "-1 0 2", "0,1,2",
              "0 1 2\n", "0 \u0661 2"],
}


class Refusals(unittest.TestCase):

    def setUp(self):
        self.desk = desk_with(MACHINES)
        self.state = state_of(self.desk)

    def refuses(self, error, *lines):
        """Each line is refused with just this error, and all names and machines are as they were."""
        for line in lines:
            with self.assertRaises(error, msg=repr(line)) as caught:
                self.desk.say(line)
            self.assertIs(type(caught.exception), error)
        self.assertEqual(state_of(self.desk), self.state)


class NoLineTest(Refusals):

    def test_no_text(self):
        self.refuses(NoLine, *NO_TEXTS)
        self.refuses(NoLine, *ODD_THINGS)
        self.refuses(NoLine, b"names", ["names"], ("names",), ["show", "a"], {"names": 1})

    def test_another_first_word(self):
        self.refuses(NoLine, "", " ", "  ", "\n", "name", "Names", "NAMES", "names.", "names\n", "\nnames", "names\nshow a",
                     " names", "a", "a b", "ok", "shows a", "sho a", "Show a", "show\na", "help", "machine()", "put", "quit",
                     "get a", "kept", "say names", "none", "-", "new a", "name a", "0")

    def test_words_fewer_or_more(self):
        for first, kinds in LINES.items():
            kinds = kinds.split()
            for many in range(9):
                words = " ".join(["a"] * many)
                line = f"{first} {words}" if many else first
                right = many == len(kinds) or many > len(kinds) and kinds and kinds[-1] in ("machine", "sheet", "words")
                if not right:
                    self.refuses(NoLine, line)
                elif kinds:
                    self.assertRaises((NoName, NoText), self.desk.say, line.replace(" a", " A"))

    def test_two_blanks_and_blanks_at_an_end(self):
        for line in ("show a", "drop a", "copy a b", "least a b", "run a 0", "part a 0 1", "stands a a", "fill a 0 0 -/-",
                     "reached a", "lots a", "words a", "names"):
            self.refuses(NoLine, line + " ", line + "  ", " " + line, "  " + line)
            if " " in line:
                self.refuses(NoLine, line.replace(" ", "  "), line.replace(" ", "  ", 1), line.replace(" ", " \n ", 1))

    def test_a_word_without_signs_counts(self):
        # As many words as there must be, one of them without signs.
        self.refuses(NoName, "show ", "drop ", "copy  b", "copy a ", "run  0", "stands a ", "put  1: 0/0", "nets  0 1 2",
                     "sheet  2 none", "part  0 1")
        self.refuses(NoText, "run a ", "part a  1", "part a 0 ", "fill a  0 -/-", "fill a 0  -/-", "fill a 0 0 ", "put b ",
                     "sheet b  none", "sheet b 2 ", "nets a ", "put b  1: 0/0", "sheet b 2  none", "nets a  0 1 2")

    def test_no_line_ahead_of_all_else(self):
        self.refuses(NoLine, "show zz zz", "show A 0", "fill zz 99 99 x x", "fill A x", "part zz 0", "put A", "put",
                     "sheet A 9", "nets A", "run zz", "run zz x x", "stands one a zz", "names A", "lots thirteen thirteen")


class WordByWordTest(Refusals):

    def test_each_line_with_right_words(self):
        for first, kinds in LINES.items():
            for words in itertools.product(*(RIGHT[kind] for kind in kinds.split())):
                desk = desk_with(MACHINES)
                self.assertIs(type(desk.say(" ".join((first,) + words))), str)

    def test_one_wrong_word(self):
        for first, kinds in LINES.items():
            kinds = kinds.split()
            for at, kind in enumerate(kinds):
                error = NoName if kind in ("new", "name") else NoText
                for word in WRONG[kind]:
                    words = [RIGHT[other][0] for other in kinds]
                    words[at] = word
                    self.refuses(error, " ".join([first] + words))

    def test_the_first_wrong_word_from_the_left(self):
        looked = 0
        for first, kinds in LINES.items():
            kinds = kinds.split()
            choices = [RIGHT[kind][:1] + WRONG[kind][:4] for kind in kinds]
            for words in itertools.product(*choices):
                wrong = [kind for kind, word in zip(kinds, words) if word not in RIGHT[kind]]
                if wrong:
                    error = NoName if wrong[0] in ("new", "name") else NoText
                    line = " ".join((first,) + words)
                    self.assertRaises(error, self.desk.say, line)
                    looked += 1
        self.assertGreater(looked, 500)
        self.assertEqual(state_of(self.desk), self.state)

    def test_names(self):
        self.refuses(NoName, "show abcdefghi", "show Show", "show a1", "show b", "put abcdefghi 1: 0/0", "put a_b 1: 0/0",
                     "copy a B", "copy b a", "copy b b", "least a 1", "least b a", "stands a b", "stands b a")
        for sign in OTHER_SIGNS + "0123456789ABZ-_.,/|:;+\n@`{[":
            self.refuses(NoName, f"show {sign}", f"put {sign} 1: 0/0", f"put b{sign} 1: 0/0", f"copy a {sign}b")

    def test_all_small_letters(self):
        for letter in "abcdefghijklmnopqrstuvwxyz":
            self.assertEqual(self.desk.say(f"put {letter * 8} 1: 0/0"), "ok")
            self.assertRaises(NoName, self.desk.say, f"put {letter * 9} 1: 0/0")

    def test_rooms_and_asks_of_the_machine(self):
        for name, machine in MACHINES.items():
            for number in range(30):
                for line, many in ((f"part {name} {number} 0", len(machine[1])), (f"part {name} 0 {number}", len(machine[1])),
                                   (f"fill {name} {number} 0 -/-", len(machine[1])), (f"fill {name} 0 {number} -/-", machine[0]),
                                   (f"fill {name} 0 0 {number}/-", len(machine[1])), (f"run {name} {number}", 0)):
                    if line.startswith("run"):
                        right = all(int(figure) < machine[0] for figure in str(number))
                    else:
                        right = number < many
                    if not right:
                        self.refuses(NoText, line)
                    else:
                        try:
                            self.desk.say(line)
                        except NotOpen:
                            pass
                        self.desk.say(f"put {name} {show_machine(machine)}")

    def test_sheets_by_their_count_of_asks(self):
        for asks in range(1, 5):
            for figure in range(10):
                line = f"sheet b {asks} 0{figure} --"
                if figure < asks:
                    self.assertEqual(self.desk.say(line), "ok")
                    self.assertEqual(self.desk.say("show b")[:2], f"{asks}:")
                    self.desk.say("drop b")
                else:
                    self.refuses(NoText, line)


class AsTheFunctionsTest(Refusals):

    def test_clash(self):
        for line, row, place in (("sheet a 1 0 1; 0 2", 1, 0), ("sheet b 2 01 12; 10 34; 01 13", 2, 1)):
            with self.assertRaises(Clash) as caught:
                self.desk.say(line)
            self.assertEqual((caught.exception.row, caught.exception.place), (row, place))
        self.refuses(Clash, "sheet a 1 0 1; 0 2", "sheet b 1 0 1; 0 2", "sheet many 4 3 0; 33 11")

    def test_too_many_rooms_of_a_sheet(self):
        rows = [f"{ask}{'0123'[k]}{'0' * 10} {'-' * 12}" for k in range(2) for ask in "012"]
        self.refuses(TooMany, "sheet b 3 " + "; ".join(rows), "sheet a 3 " + "; ".join(rows))
        # What clashes is told ahead of it.
        self.refuses(Clash, "sheet b 3 " + "; ".join(rows + ["0 1", "0 2"]))
        self.refuses(NoText, "sheet b 1 " + "; ".join(rows + ["0 1", "0 2"]), "sheet b 3 " + "; ".join(rows + ["0 8"]))

    def test_not_open(self):
        self.refuses(NotOpen, "fill a 0 0 0/-", "fill a 0 0 -/1", "fill a 0 0 1/1", "fill a 0 0 0/0", "fill a 1 1 2/4",
                     "fill a 0 1 2/-", "fill a 0 1 1/5")
        self.refuses(NoText, "fill a 0 0 3/1", "fill a 0 2 0/-", "fill a 3 0 0/-")
        self.refuses(NoName, "fill b 0 0 0/-")

    def test_unlike(self):
        self.refuses(Unlike, "stands a one", "stands one a", "stands hard one", "stands many a")
        self.refuses(NoName, "stands a zz", "stands zz a", "stands zz zz", "stands one A")

    def test_least_of_too_many_tries(self):
        self.refuses(TooMany, "least many b", "least many many", "least many a")
        self.refuses(NoName, "least many B", "least many abcdefghi", "least zz b")

    def test_lots_of_too_many_rooms(self):
        self.refuses(TooMany, "lots thirteen", "lots many")
        self.assertEqual(self.desk.say("lots nine"), "0 1 2 3 4 5 6 7 8")

    def test_words_of_too_many_rooms_or_asks(self):
        self.desk = desk_with({"five": countdown(5), "three": (3, (((None, None),) * 3,)), "four": countdown(4)})
        self.state = state_of(self.desk)
        self.refuses(TooMany, "words five", "words three")
        self.assertEqual(self.desk.say("words four")[:3], "0 1")

    def test_nets_of_too_many_rooms_ahead_of_no_words(self):
        for words in ("0", "0 1 2 3 4 5 6 7 8", "0 0", "99"):
            self.refuses(TooMany, f"nets nine {words}", f"nets many {words}")
        self.refuses(NoText, "nets nine x", "nets many 0 1 02", "nets nine 100", "nets many 0 ")
        self.refuses(NoName, "nets ninety 0", "nets zz x")

    def test_no_words(self):
        self.refuses(NoWords, "nets a 0", "nets a 0 1", "nets a 0 1 2 3", "nets a 0 1 1", "nets a 0 1 4", "nets a 0 1 99",
                     "nets a 8 9 10", "nets a " + " ".join(["0"] * 1900), "nets one 0 1 2 3", "nets one 4 5 6")
        self.refuses(NoText, "nets a 0 1 -1", "nets a 0 1 1 x", "nets a 0 1 100")

    def test_nets_of_too_many_tries_behind_no_words(self):
        self.refuses(TooMany, "nets hard 0 1 2 3 4 5 6 7")
        self.refuses(NoWords, "nets hard 0 1 2 3 4 5 6", "nets hard 0 1 2 3 4 5 6 8", "nets hard 0 1 2 3 4 5 6 6",
                     "nets hard 0 1 2 3 4 5 6 7 0")
        self.refuses(NoText, "nets hard 0 1 2 3 4 5 6 07")

    def test_dropped(self):
        self.desk.say("drop a")
        self.state.pop("a")
        self.refuses(NoName, "show a", "drop a", "run a 0", "copy a a", "least a a", "fill a 0 0 -/-", "stands a a",
                     "stands one a", "reached a", "lots a", "words a", "nets a 0 1 2", "part a 0 1")
        self.assertEqual(self.desk.say("put a 1: 0/0"), "ok")

    def test_the_desk_goes_on(self):
        for line in ("show zz", "fill a 0 0 0/-", "least many a", "sheet a 1 0 1; 0 2", None, "put a 1: 1/1", "nets a 0"):
            self.assertRaises(ValueError, self.desk.say, line)
            self.assertEqual(self.desk.say("show a"), show_machine(SMALL))
        self.assertEqual(self.desk.say("fill a 2 1 -/6"), "ok")
        self.assertEqual(self.desk.say("run a 001"), "016 -")
