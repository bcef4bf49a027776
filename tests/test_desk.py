"""[36] the desk: each line, its answer and what it changes."""

import random
import unittest

from opencells.choices import nets_for, words_for
from opencells.desk import Desk
from opencells.errors import CellError, NoName
from opencells.growth import filled
from opencells.least import least
from opencells.lots import greatest_lots
from opencells.partings import parting
from opencells.runs import reached, run
from opencells.sheets import tree_of
from opencells.sheettexts import show_net, show_sheet
from opencells.standing import stands
from opencells.texts import read_machine, show_machine, show_row
from tests.samples import FULL, SMALL, countdown, draw_machine, draw_row, draw_sheet, drawn, ring, two_rings

SMALL_TEXT = "2: 1/0 0/- | 2/1 -/3 | 0/0 -/-"


def desk_with(machines):
    """A desk with these machines, by their names."""
    desk = Desk()
    for name, machine in machines.items():
        desk.say(f"put {name} {show_machine(machine)}")
    return desk


def state_of(desk):
    """All machines of a desk, by their names."""
    return {name: desk.say(f"show {name}") for name in desk.say("names").split()}


def told(number):
    return "-" if number is None else str(number)


class LinesTest(unittest.TestCase):

    def setUp(self):
        self.desk = desk_with({"a": SMALL})

    def says(self, line, answer):
        said = self.desk.say(line)
        self.assertEqual(said, answer, line)
        self.assertIs(type(said), str)

    def keeps(self, machines):
        """The desk has just these machines, by their names."""
        self.assertEqual(state_of(self.desk), {name: show_machine(machine) for name, machine in machines.items()})

    def test_put(self):
        self.says("put b 1: 0/7", "ok")
        self.keeps({"a": SMALL, "b": ring([7])})
        self.says("put b 2: 0/1 -/3 | 1/- -/-", "ok")
        self.says("show b", "2: 0/1 -/3 | 1/- -/-")
        self.says("put a 1: -/-", "ok")
        self.says("show a", "1: -/-")
        self.says("put abcdefgh 1: 0/0", "ok")
        self.says("names", "a abcdefgh b")

    def test_the_greatest_machine(self):
        machine = draw_machine(random.Random(231), 24, 4, 0, 0, 8)
        self.says(f"put great {show_machine(machine)}", "ok")
        self.says("show great", show_machine(machine))

    def test_names(self):
        desk = Desk()
        self.assertEqual(desk.say("names"), "")
        for name in ("b", "zz", "a", "aa", "put", "names", "none", "ab"):
            self.assertEqual(desk.say(f"put {name} 1: 0/0"), "ok")
        self.assertEqual(desk.say("names"), "a aa ab b names none put zz")
        for name in ("b", "zz", "a", "aa", "put", "names", "none", "ab"):
            self.assertEqual(desk.say(f"drop {name}"), "ok")
        self.assertEqual(desk.say("names"), "")

    def test_sheet(self):
        self.says("sheet s 2 010 3-7; 1 2", "ok")
        self.says("show s", "2: 1/3 -/2 | -/- 2/- | -/7 -/-")
        self.says("sheet s 1 none", "ok")
        self.says("show s", "1: -/-")
        self.says("sheet a 4 none", "ok")
        self.says("show a", "4: -/- -/- -/- -/-")
        self.says("sheet a 3 0 1; 0 1; 2 -", "ok")
        self.says("show a", "3: -/1 -/- -/-")

    def test_least(self):
        machine = (1, (((1, 0),), ((2, 1),), ((None, None),)))
        self.desk = desk_with({"a": machine, "b": FULL})
        self.says("least a c", "ok")
        self.keeps({"a": machine, "b": FULL, "c": (1, (((1, 0),), ((0, 1),)))})
        self.says("least a b", "ok")
        self.keeps({"a": machine, "b": (1, (((1, 0),), ((0, 1),))), "c": (1, (((1, 0),), ((0, 1),)))})
        self.says("least a a", "ok")
        self.says("show a", "1: 1/0 | 0/1")

    def test_fill(self):
        self.says("fill a 0 1 -/5", "ok")
        self.says("show a", "2: 1/0 0/5 | 2/1 -/3 | 0/0 -/-")
        self.says("fill a 2 1 2/7", "ok")
        self.says("fill a 1 1 1/-", "ok")
        self.says("show a", "2: 1/0 0/5 | 2/1 1/3 | 0/0 2/7")
        self.says("fill a 2 1 2/7", "ok")
        self.says("fill a 0 0 -/-", "ok")
        self.says("fill a 0 0 1/-", "ok")
        self.says("show a", "2: 1/0 0/5 | 2/1 1/3 | 0/0 2/7")

    def test_copy(self):
        self.says("copy a b", "ok")
        self.keeps({"a": SMALL, "b": SMALL})
        self.says("fill b 0 1 -/5", "ok")
        self.keeps({"a": SMALL, "b": filled(SMALL, 0, 1, (None, 5))})
        self.says("copy b a", "ok")
        self.keeps({"a": filled(SMALL, 0, 1, (None, 5)), "b": filled(SMALL, 0, 1, (None, 5))})
        self.says("copy a a", "ok")
        self.says("fill a 2 1 2/7", "ok")
        self.says("show b", show_machine(filled(SMALL, 0, 1, (None, 5))))

    def test_drop(self):
        self.says("copy a b", "ok")
        self.says("drop a", "ok")
        self.keeps({"b": SMALL})
        self.assertRaises(NoName, self.desk.say, "drop a")
        self.assertRaises(NoName, self.desk.say, "show a")
        self.says("put a 1: 0/0", "ok")
        self.keeps({"a": ring([0]), "b": SMALL})

    def test_show(self):
        self.says("show a", SMALL_TEXT)
        for machine in drawn(232, 30, 24, 4, 8):
            self.says(f"put m {show_machine(machine)}", "ok")
            self.says("show m", show_machine(machine))

    def test_run(self):
        self.says("run a -", " 0")
        self.says("run a 0", "0 1")
        self.says("run a 1", "- 0")
        self.says("run a 1100", "--01 2")
        self.says("run a 01", "03 -")
        # Behind an open cell nothing more is asked.
        self.says("run a 0100110", "03 -")
        self.says("put b 1: -/-", "ok")
        self.says("run b 00", "- -")

    def test_part(self):
        self.says("part a 0 1", show_row(parting(SMALL, 0, 1)))
        self.says("part a 0 1", "0")
        self.says("part a 1 0", "0")
        self.says("part a 0 2", "00")
        self.says("part a 2 2", "none")
        self.says("put b 1: -/1 | -/- | -/1", "ok")
        self.says("part b 0 1", "none")

    def test_stands(self):
        self.says("stands a a", "yes")
        self.says("put b 2: 1/0 0/4 | 2/1 1/3 | 0/0 -/-", "ok")
        self.says("stands a b", "yes")
        self.says("stands b a", "no 1")
        self.says("put c 2: 1/0 0/4 | 0/1 1/3", "ok")
        self.says("stands a c", "no 0000")
        self.says("put c 2: 1/0 0/4 | 1/1 1/3", "ok")
        self.says("stands a c", "no 000")

    def test_reached(self):
        self.says("reached a", "0 1 2")
        self.says("put b 2: 2/0 -/- | 0/0 1/0 | 3/0 0/0 | -/- 2/0", "ok")
        self.says("reached b", "0 2 3")
        self.says("put b 2: 3/0 1/0 | 0/0 1/0 | 3/0 0/0 | 2/- -/0", "ok")
        self.says("reached b", "0 3 1 2")
        self.says("put b 1: -/-", "ok")
        self.says("reached b", "0")

    def test_lots(self):
        self.says("put b 1: -/0 | -/1 | -/- | -/0", "ok")
        self.says("lots b", "0,2,3 1,2")
        self.says("put b 1: -/-", "ok")
        self.says("lots b", "0")
        self.says(f"put b {show_machine(countdown(12))}", "ok")
        self.says("lots b", " ".join(str(room) for room in range(12)))

    def test_words(self):
        self.says("put b 1: 1/5 | 0/2", "ok")
        self.says("words b", "0 1 : 4")
        self.says("put b 1: 1/- | 1/-", "ok")
        self.says("words b", "1 0 : 0")
        self.says("put b 1: 0/7", "ok")
        self.says("words b", "0 : 3")
        self.says("put b 2: 2/- 2/- | 2/- 2/- | 2/- 2/-", "ok")
        self.says("words b", "1 2 0 : 0")

    def test_nets(self):
        self.says("put b 1: 1/5 | 0/2", "ok")
        self.says("nets b 0 1", "0 | 0 | 1 | 0")
        self.says("nets b 1 0", "0 | 1 | 0 | 1")
        self.says("put b 1: 0/6", "ok")
        self.says("nets b 1", "- | none | - | -")
        self.says("nets b 0", "none | none | - | -")
        self.says("put b 2: 0/1 1/2 | 1/2 0/1", "ok")
        self.says("nets b 0 1", "10 + 01 | 00 + 11 | 10 + 01 | none")

    def test_rows_of_some_hundred_asks(self):
        machine = two_rings(11, 13)
        self.says(f"put r {show_machine(machine)}", "ok")
        row = self.desk.say("part r 0 11")
        self.assertEqual(row, "0" * 143)
        answers, room = run(machine, 0, (0,) * 143)
        self.says(f"run r {row}", "".join(map(told, answers)) + f" {room}")
        self.says(f"run r {'0' * 3900}", "".join(map(told, run(machine, 0, (0,) * 3900)[0])) + " 6")
        one, other = ring([0] * 22 + [1]), ring([0] * 23 + [1])
        self.says(f"put one {show_machine(one)}", "ok")
        self.says(f"put other {show_machine(other)}", "ok")
        self.says("stands one other", "no " + "0" * 23)

    def test_long_rows_at_which_one_fails(self):
        # Of 23 rooms the last one says something, of 24 the last one says it not: at first both end at 23 times 24.
        one = (1, tuple((((room + 1) % 23, 1 if room == 22 else None),) for room in range(23)))
        other = (1, tuple((((room + 1) % 24, 0 if room == 23 else 1),) for room in range(24)))
        self.says(f"put one {show_machine(one)}", "ok")
        self.says(f"put other {show_machine(other)}", "ok")
        self.says("stands one other", "no " + "0" * 552)
        answers, room = run(one, 0, (0,) * 552)
        self.says(f"run one {'0' * 552}", "".join(map(told, answers)) + " 0")


class TwoDesksTest(unittest.TestCase):

    def test_they_keep_nothing_of_each_other(self):
        one, two = Desk(), Desk()
        one.say("put a 1: 0/0")
        self.assertEqual(two.say("names"), "")
        self.assertRaises(NoName, two.say, "show a")
        two.say("put a 1: 0/1")
        two.say("put b 1: 0/2")
        self.assertEqual((one.say("show a"), one.say("names")), ("1: 0/0", "a"))
        one.say("drop a")
        self.assertEqual((two.say("show a"), two.say("names")), ("1: 0/1", "a b"))
        self.assertEqual(Desk().say("names"), "")


class DrawnLinesTest(unittest.TestCase):
    """Many lines in turn, held against the functions and a dict of machines."""

    def setUp(self):
        self.draw = random.Random(233)
        self.desk = Desk()
        self.kept = {}

    def put(self, name, machine):
        self.kept[name] = machine
        return "ok"

    def draw_line(self):
        """A drawn line, and a function that tells what it is answered, and does what it does."""
        draw, kept = self.draw, self.kept
        name, new, other = draw.choice(sorted(kept)), draw.choice("abcd"), draw.choice(sorted(kept))
        machine = kept[name]
        room, ask, goes = draw.randrange(len(machine[1])), draw.randrange(machine[0]), draw.randrange(len(machine[1]))
        fresh = draw_machine(draw, draw.randint(1, 5), draw.randint(1, 2), 0.4, 0.4, 3)
        sheet = draw_sheet(draw, 2, 4, 5)
        cell, row = (draw.choice((None, goes)), draw.choice((None, 0, 1))), draw_row(draw, machine[0], 12)
        words = tuple(draw.sample(range(4), draw.randint(1, 4)))
        return draw.choice([
            (f"put {new} {show_machine(fresh)}", lambda: self.put(new, fresh)),
            (f"sheet {new} 2 {show_sheet(sheet)}", lambda: self.put(new, tree_of(2, sheet))),
            (f"least {name} {new}", lambda: self.put(new, least(machine)[0])),
            (f"fill {name} {room} {ask} {told(cell[0])}/{told(cell[1])}",
             lambda: self.put(name, filled(machine, room, ask, cell))),
            (f"copy {name} {new}", lambda: self.put(new, machine)),
            (f"show {name}", lambda: show_machine(machine)),
            ("names", lambda: " ".join(sorted(kept))),
            (f"run {name} {show_row(row)}", lambda: self.ran(run(machine, 0, row))),
            (f"part {name} {room} {goes}", lambda: self.parted(parting(machine, room, goes))),
            (f"stands {name} {other}", lambda: self.stood(stands(machine, kept[other]))),
            (f"reached {name}", lambda: " ".join(str(one) for one, way in reached(machine))),
            (f"lots {name}", lambda: " ".join(",".join(map(str, lot)) for lot in greatest_lots(machine))),
            (f"words {name}", lambda: self.worded(words_for(machine))),
            (f"nets {name} {' '.join(map(str, words))}",
             lambda: " | ".join(show_net(net) for net in nets_for(machine, words)[2])),
        ])

    def parted(self, row):
        return "none" if row is None else "".join(map(str, row))

    def ran(self, run_told):
        return "".join(map(told, run_told[0])) + " " + told(run_told[1])

    def stood(self, verdict):
        return "yes" if verdict[0] == "yes" else "no " + "".join(map(str, verdict[1]))

    def worded(self, words_told):
        return " ".join(map(str, words_told[0])) + " : " + str(words_told[2])

    def test_many_lines(self):
        self.desk.say(f"put a {SMALL_TEXT}")
        self.kept["a"] = SMALL
        ends = {}
        for k in range(2500):
            line, answer = self.draw_line()
            try:
                expected = answer()
            except CellError as error:
                expected = type(error)
                self.assertRaises(expected, self.desk.say, line)
            else:
                self.assertEqual(self.desk.say(line), expected, line)
            first = line.split()[0]
            ends[first, expected if isinstance(expected, type) else ""] = True
            self.assertEqual(state_of(self.desk), {name: show_machine(machine) for name, machine in self.kept.items()})
        self.assertGreater(len(ends), 18)
        self.assertEqual({first for first, end in ends if end == ""}, {
            "put", "sheet", "least", "fill", "copy", "show", "names", "run", "part", "stands", "reached", "lots", "words",
            "nets"})

    def test_from_told_rows_to_nets(self):
        self.assertEqual(self.desk.say("sheet t 1 0000 1212; 00000 ----1"), "ok")
        self.assertEqual(self.desk.say("least t m"), "ok")
        self.assertEqual(self.desk.say("show m"), "1: 1/1 | 0/2")
        self.assertEqual(self.desk.say("stands t m"), "yes")
        self.assertEqual(self.desk.say("words m"), "0 1 : 3")
        self.assertEqual(self.desk.say("nets m 0 1"), "0 | 0 | 1 | none")
        self.assertEqual(self.desk.say("run m 00000"), "12121 1")
        self.assertEqual(read_machine(self.desk.say("show t"))[0], 1)
