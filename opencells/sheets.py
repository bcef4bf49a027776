"""Sheets: told rows of asks and answers, their trees, and the least machines that agree with them."""

from opencells.errors import Clash, TooMany
from opencells.least import least
from opencells.machines import MOST_ROOMS
from opencells.partings import answers_unlike
from opencells.runs import run


def tree_of(asks, sheet):
    """The machine, of so many asks, with a room for each beginning of the told rows."""
    answers = told_answers(sheet)
    rooms = beginnings(sheet)
    if len(rooms) > MOST_ROOMS:
        raise TooMany("the tree has more rooms than a machine may have")
    numbers = {room: number for number, room in enumerate(rooms)}
    cells = [[(numbers.get(room + (ask,)), answers.get(room + (ask,))) for ask in range(asks)] for room in rooms]
    return (asks, tuple([tuple(room) for room in cells]))


def told_answers(sheet):
    """A dict of the answers that are told, by the rows at whose last ask they are; unlike ones are refused."""
    found = {}
    for number, (row, answers) in enumerate(sheet):
        for place, answer in enumerate(answers):
            asked = row[:place + 1]
            if answers_unlike(found.get(asked), answer):
                raise Clash(number, place)
            if answer is not None:
                found[asked] = answer
    return found


def beginnings(sheet):
    """The list of (), and of all rows with which a told row begins and goes on, in the order they come."""
    # A dict keeps the order in which its keys were put there first.
    found = {(): True}
    for row, answers in sheet:
        for many in range(len(row)):
            found[row[:many]] = True
    return list(found)


def disagrees(machine, sheet):
    """The first told row, and the first place in it, where a machine doesn't agree; None where it agrees with all."""
    for number, (row, answers) in enumerate(sheet):
        said = run(machine, 0, row)[0]
        for place, answer in enumerate(answers):
            if place >= len(said) or (answer is not None and said[place] != answer):
                return (number, place)
    return None


def least_of(asks, sheet):
    """The least machine that agrees with a sheet, told as least does."""
    return least(tree_of(asks, sheet))
