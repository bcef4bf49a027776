"""What may be written, by patterns, apart from the package; and texts spoilt in one place."""

import re

GOES = "(?:-|[0-9]|1[0-9]|2[0-3])"
CELL = f"{GOES}/[0-7-]"

# Signs of other scripts that count as figures, or look like a sign that is due.
OTHER_SIGNS = "\u0661\u0967\uff10\uff11\u00b2\u2070\u2460\u2013\u2212\u00a0\u2003\u2044\uff5c\uff1a"

SIGNS = "0123456789/-:|;+ .,_a\n\t" + OTHER_SIGNS

# What is no text at all.
NO_TEXTS = [None, True, False, 0, 1, 10, -1, (), [], {}, b"", b"0/0", b"-", ("0/0",), ["0/0"], ["-"], object(), len, str,
            {"0/0": 1}, (0, 0), (1, (((0, 0),),)), [("0", "0")], set()]


def part(text):
    return None if text == "-" else int(text)


def read_cell(text):
    """The cell that a text writes; None where it is no cell."""
    if not re.fullmatch(CELL, text):
        return None
    return tuple(part(one) for one in text.split("/"))


def read_machine(text):
    """The machine that a text writes; None where it is none."""
    if not re.fullmatch(f"[1-4]:(?: {CELL}| [|])+", text):
        return None
    asks = int(text[0])
    room = f" {CELL}" * asks
    if not re.fullmatch(f"[1-4]:{room}(?: [|]{room}){{0,23}}", text):
        return None
    cells = [read_cell(word) for word in text[3:].split(" ") if word != "|"]
    rooms = len(cells) // asks
    if any(goes is not None and goes >= rooms for goes, says in cells):
        return None
    return (asks, tuple(tuple(cells[room * asks:room * asks + asks]) for room in range(rooms)))


def read_row(asks, text):
    """The row that a text writes; None where it is none."""
    if text == "-":
        return ()
    return tuple(int(sign) for sign in text) if re.fullmatch(f"[0-{asks - 1}]+", text) else None


def read_sheet(asks, text):
    """The sheet that a text writes; None where it is none."""
    if text == "none":
        return []
    told = f"[0-{asks - 1}]{{1,12}} [0-7-]{{1,12}}"
    if not re.fullmatch(f"{told}(?:; {told}){{0,23}}", text):
        return None
    sheet = [tuple(one.split(" ")) for one in text.split("; ")]
    if any(len(row) != len(answers) for row, answers in sheet):
        return None
    return [(tuple(int(sign) for sign in row), tuple(part(sign) for sign in answers)) for row, answers in sheet]


def read_net(v, text):
    """The net that a text writes; None where it is none."""
    if text == "none":
        return ()
    piece = f"[01-]{{{v}}}"
    if not re.fullmatch(f"{piece}(?: [+] {piece}){{0,39}}", text):
        return None
    return tuple(text.split(" + "))


def spoilt_texts(text):
    """All texts with one sign of it left out, twice, exchanged with the next, another one, or one more."""
    yield ""
    yield text[::-1]
    yield text.upper()
    yield text * 2
    yield text + " " + text
    for at in range(len(text) + 1):
        yield text[:at] + text[at + 1:]
        yield text[:at]
        yield text[at:]
        yield text[:at] + text[at:at + 1] * 2 + text[at + 1:]
        yield text[:at] + text[at:at + 2][::-1] + text[at + 2:]
        for sign in SIGNS:
            yield text[:at] + sign + text[at:]
            yield text[:at] + sign + text[at + 1:]
