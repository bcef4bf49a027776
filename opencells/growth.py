"""Open cells filled later, and what becomes of a machine that stood in the place."""

from opencells.errors import NoBack, NotOpen
from opencells.standing import refuse_unlike, stands


def filled(machine, room, ask, cell):
    """The machine with one cell filled by what another cell tells."""
    asks, rooms = machine
    cells = rooms[room]
    goes, says = cells[ask]
    more = (filled_part(goes, cell[0]), filled_part(says, cell[1]))
    grown = cells[:ask] + (more,) + cells[ask + 1:]
    return (asks, rooms[:room] + (grown,) + rooms[room + 1:])


def filled_part(part, told):
    """Where a cell goes, or what it says, with what is told of it, None where nothing is."""
    if part is None:
        return told
    if told is not None and told != part:
        raise NotOpen("the cell has something else there already")
    return part


class Grown:
    """A machine whose cells are filled one by one, beside another one that is to stand in its place."""

    def __init__(self, machine, other):
        refuse_unlike(machine, other)
        self.other = other
        self.states = [machine]
        self.taken = []

    def machine(self):
        """The machine as it is now."""
        return self.states[-1]

    def fills(self):
        """The list of the fills that stay, as they were handed in."""
        return list(self.taken)

    def fill(self, room, ask, cell):
        """Fill a cell: None where the other one stands then, else the first row at which it fails."""
        self.states.append(filled(self.states[-1], room, ask, cell))
        self.taken.append((room, ask, cell))
        return self.failing()

    def back(self):
        """Take back the last fill that stays, and tell as fill does."""
        if not self.taken:
            raise NoBack("no fill stays")
        self.states.pop()
        self.taken.pop()
        return self.failing()

    def failing(self):
        """The first row at which the other one doesn't stand in the place of the machine; None where it does."""
        verdict, shown = stands(self.states[-1], self.other)
        return shown if verdict == "no" else None
