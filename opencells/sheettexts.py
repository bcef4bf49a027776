"""Sheets and nets written as texts, and read back."""

from opencells.errors import NoText
from opencells.machines import ANSWERS
from opencells.texts import read_part, read_row, refuse_no_text, show_parts, show_row

MOST_TOLD_ROWS = 24
MOST_TOLD_ASKS = 12
MOST_PIECES = 40


def show_sheet(sheet):
    """A sheet as its told rows."""
    return "; ".join([f"{show_row(row)} {show_parts(answers)}" for row, answers in sheet]) or "none"


def show_net(net):
    """A net as its pieces."""
    return " + ".join(net) or "none"


def read_sheet(asks, text):
    """The sheet, of so many asks, that a text writes."""
    told = read_list(text, "; ", MOST_TOLD_ROWS)
    return [read_told(asks, one) for one in told]


def read_list(text, between, most):
    """The list of the texts, at most so many, that a text has with a text between."""
    refuse_no_text(text)
    found = [] if text == "none" else text.split(between)
    if len(found) > most:
        raise NoText("more stand there than may")
    return found


def read_told(asks, text):
    """The told row, of so many asks' numbers, that a text writes."""
    words = text.split(" ")
    if len(words) != 2:
        raise NoText("a told row is written as its row, a blank and its answers")
    row = read_row(asks, words[0])
    answers = tuple([read_part(sign, ANSWERS) for sign in words[1]])
    if not 1 <= len(row) <= MOST_TOLD_ASKS or len(answers) != len(row):
        raise NoText("a told row has 1 to 12 asks, and as many answers")
    return (row, answers)


def read_net(v, text):
    """The net, of pieces of v signs, that a text writes."""
    pieces = read_list(text, " + ", MOST_PIECES)
    if not all([is_piece(v, piece) for piece in pieces]):
        raise NoText("a piece has as many signs as there are bits, each 0, 1 or -")
    return tuple(pieces)


def is_piece(v, text):
    """Whether a text is a piece of v signs."""
    return len(text) == v and all([sign in "01-" for sign in text])
