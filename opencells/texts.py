"""Cells, machines and rows written as texts, and read back."""

from opencells.errors import NoText
from opencells.machines import ANSWERS, MOST_ASKS, MOST_ROOMS, is_machine


def show_part(part):
    """A number in figures, or - for what is open."""
    return "-" if part is None else str(part)


def show_cell(cell):
    """A cell as GOES/SAYS."""
    return f"{show_part(cell[0])}/{show_part(cell[1])}"


def show_machine(machine):
    """A machine as its asks and its rooms' cells."""
    asks, rooms = machine
    shown = [" ".join([show_cell(cell) for cell in room]) for room in rooms]
    return f"{asks}: " + " | ".join(shown)


def show_row(row):
    """A row as its figures, - where it has none."""
    return show_parts(row) or "-"


def show_parts(parts):
    """The figures of asks or answers one behind the other, - for each that is open."""
    return "".join([show_part(part) for part in parts])


def refuse_no_text(thing):
    """Refuse a thing that is no text."""
    if not isinstance(thing, str):
        raise NoText("this is no text")


def read_number(text, count):
    """The number from 0 to below count that a text has in figures."""
    # Held against what would be written: so no nought ahead, and no sign that only counts as a figure, is let by.
    for number in range(count):
        if text == str(number):
            return number
    raise NoText("no such number is written so")


def read_part(text, count):
    """The number from 0 to below count that a text has in figures, or None for -."""
    return None if text == "-" else read_number(text, count)


def read_cell(text):
    """The cell that a text writes."""
    refuse_no_text(text)
    parts = text.split("/")
    if len(parts) != 2:
        raise NoText("a cell is written GOES/SAYS")
    return (read_part(parts[0], MOST_ROOMS), read_part(parts[1], ANSWERS))


def read_machine(text):
    """The machine that a text writes."""
    refuse_no_text(text)
    head, sign, rest = text.partition(": ")
    asks = read_number(head, MOST_ASKS + 1)
    rooms = [tuple([read_cell(cell) for cell in room.split(" ")]) for room in rest.split(" | ")]
    machine = (asks, tuple(rooms))
    if not is_machine(machine):
        raise NoText("no machine has such rooms")
    return machine


def read_row(asks, text):
    """The row of so many asks' numbers that a text writes."""
    refuse_no_text(text)
    if text == "-":
        return ()
    if text == "":
        raise NoText("a row without asks is written -")
    return tuple([read_number(sign, asks) for sign in text])
