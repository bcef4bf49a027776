"""The desk: machines kept by names, told of and asked by lines."""

from opencells.choices import nets_for, words_for
from opencells.growth import filled
from opencells.least import least
from opencells.lines import read_line
from opencells.lots import greatest_lots
from opencells.partings import parting
from opencells.runs import reached, run
from opencells.sheets import tree_of
from opencells.sheettexts import show_net
from opencells.standing import stands
from opencells.texts import show_machine, show_part, show_parts, show_row


def keep(kept, name, machine):
    """Keep a machine by a name, in the place of what stood by it."""
    kept[name] = machine
    return "ok"


def answer_put(kept, values):
    """put NAME MACHINE"""
    name, machine = values
    return keep(kept, name, machine)


def answer_sheet(kept, values):
    """sheet NAME NUMBER SHEET"""
    name, asks, sheet = values
    return keep(kept, name, tree_of(asks, sheet))


def answer_least(kept, values):
    """least NAME NEW"""
    name, new = values
    return keep(kept, new, least(kept[name])[0])


def answer_fill(kept, values):
    """fill NAME ROOM ASK CELL"""
    name, room, ask, cell = values
    return keep(kept, name, filled(kept[name], room, ask, cell))


def answer_copy(kept, values):
    """copy NAME NEW"""
    name, new = values
    return keep(kept, new, kept[name])


def answer_drop(kept, values):
    """drop NAME"""
    del kept[values[0]]
    return "ok"


def answer_show(kept, values):
    """show NAME"""
    return show_machine(kept[values[0]])


def answer_names(kept, values):
    """names"""
    return " ".join(sorted(kept))


def answer_run(kept, values):
    """run NAME ROW"""
    name, row = values
    answers, room = run(kept[name], 0, row)
    return f"{show_parts(answers)} {show_part(room)}"


def answer_part(kept, values):
    """part NAME ROOM ROOM"""
    name, one, other = values
    row = parting(kept[name], one, other)
    return "none" if row is None else show_row(row)


def answer_stands(kept, values):
    """stands NAME OTHER"""
    name, other = values
    verdict, shown = stands(kept[name], kept[other])
    return "yes" if verdict == "yes" else f"no {show_row(shown)}"


def answer_reached(kept, values):
    """reached NAME"""
    return show_numbers([room for room, row in reached(kept[values[0]])], " ")


def answer_lots(kept, values):
    """lots NAME"""
    return " ".join([show_numbers(lot, ",") for lot in greatest_lots(kept[values[0]])])


def answer_words(kept, values):
    """words NAME"""
    words, bits, many = words_for(kept[values[0]])
    shown = show_numbers(words, " ")
    return f"{shown} : {many}"


def answer_nets(kept, values):
    """nets NAME WORD .."""
    name, words = values
    nets = nets_for(kept[name], words)[2]
    return " | ".join([show_net(net) for net in nets])


def show_numbers(numbers, between):
    """Numbers in figures, with a text between."""
    return between.join([str(number) for number in numbers])


TOLD_BY = {
    "put": answer_put,
    "sheet": answer_sheet,
    "least": answer_least,
    "fill": answer_fill,
    "copy": answer_copy,
    "drop": answer_drop,
    "show": answer_show,
    "names": answer_names,
    "run": answer_run,
    "part": answer_part,
    "stands": answer_stands,
    "reached": answer_reached,
    "lots": answer_lots,
    "words": answer_words,
    "nets": answer_nets,
}


class Desk:
    """Machines kept by names; each line is answered with a text, or refused."""

    def __init__(self):
        self.kept = {}

    def say(self, line):
        """The answer to a line."""
        first, values = read_line(self.kept, line)
        answer = TOLD_BY[first]
        return answer(self.kept, values)
