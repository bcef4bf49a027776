"""The lines that a desk is told: which words they have, and what is read from each.

The machines that are kept are a dict, by their names.
"""

from opencells.errors import NoLine, NoName, NoText
from opencells.machines import MOST_ASKS, is_cell
from opencells.sheettexts import read_sheet
from opencells.texts import read_cell, read_machine, read_number, read_row

LETTERS = "abcdefghijklmnopqrstuvwxyz"
MOST_LETTERS = 8
NUMBERS = 100

# Of each line, by its first word: what the words behind that one are.
KINDS = {
    "put": ("new", "machine"),
    "sheet": ("new", "asks", "sheet"),
    "least": ("name", "new"),
    "fill": ("name", "room", "ask", "cell"),
    "copy": ("name", "new"),
    "drop": ("name",),
    "show": ("name",),
    "names": (),
    "run": ("name", "row"),
    "part": ("name", "room", "room"),
    "stands": ("name", "name"),
    "reached": ("name",),
    "lots": ("name",),
    "words": ("name",),
    "nets": ("name", "words"),
}

# These are all that is left of a line, with its blanks.
LONG_KINDS = ("machine", "sheet", "words")


def words_of(line):
    """The words of a line, the last one long where its kind is."""
    if not isinstance(line, str):
        raise NoLine("a line is a text")
    kinds = KINDS.get(line.partition(" ")[0])
    if kinds is None:
        raise NoLine("no line begins so")
    words = line.split(" ")
    if kinds and kinds[-1] in LONG_KINDS:
        words = line.split(" ", len(kinds))
    if len(words) != len(kinds) + 1:
        raise NoLine("the line has other words")
    return words


def read_line(kept, line):
    """A tuple of a line's first word, and the list of what is read from the words behind it."""
    words = words_of(line)
    values = []
    for kind, word in zip(KINDS[words[0]], words[1:]):
        read = READERS[kind]
        values.append(read(kept, values, word))
    return (words[0], values)


def new_name(kept, values, word):
    """A name, whether or not a machine stands by it."""
    if not 1 <= len(word) <= MOST_LETTERS or not all([sign in LETTERS for sign in word]):
        raise NoName("a name has one to eight small letters")
    return word


def known_name(kept, values, word):
    """A name by which a machine stands."""
    name = new_name(kept, values, word)
    if name not in kept:
        raise NoName("no machine stands by this name")
    return name


def machine_named(kept, values):
    """The machine by the name that was read first."""
    return kept[values[0]]


def room_number(kept, values, word):
    """A room of the machine."""
    return read_number(word, len(machine_named(kept, values)[1]))


def ask_number(kept, values, word):
    """An ask of the machine."""
    return read_number(word, machine_named(kept, values)[0])


def count_of_asks(kept, values, word):
    """How many asks a machine may have."""
    asks = read_number(word, MOST_ASKS + 1)
    if asks == 0:
        raise NoText("a machine has an ask or more")
    return asks


def row_of_asks(kept, values, word):
    """A row of the machine's asks."""
    return read_row(machine_named(kept, values)[0], word)


def cell_of_rooms(kept, values, word):
    """A cell that goes to one of the machine's rooms, if it goes anywhere."""
    cell = read_cell(word)
    if not is_cell(cell, len(machine_named(kept, values)[1])):
        raise NoText("the machine has no such room")
    return cell


def whole_machine(kept, values, word):
    """A machine."""
    return read_machine(word)


def whole_sheet(kept, values, word):
    """A sheet of the count of asks that was read ahead of it."""
    return read_sheet(values[1], word)


def all_numbers(kept, values, word):
    """A tuple of one number or more."""
    return tuple([read_number(number, NUMBERS) for number in word.split(" ")])


READERS = {
    "new": new_name,
    "name": known_name,
    "room": room_number,
    "ask": ask_number,
    "asks": count_of_asks,
    "row": row_of_asks,
    "cell": cell_of_rooms,
    "machine": whole_machine,
    "sheet": whole_sheet,
    "words": all_numbers,
}
