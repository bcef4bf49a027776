"""Other names for a machine's rooms, asks and answers."""

from opencells.machines import are_unlike_below


def is_order(thing, many):
    """Whether a thing, whatever it is, is a tuple of the numbers from 0 to below a count, each once."""
    return are_unlike_below(thing, many, many)


def renamed(machine, rooms, asks, answers):
    """The machine with other names, by an order of its rooms, one of its asks, and one of the eight answers."""
    old = machine[1]
    cells = [
        [(name_of(rooms, old[room][ask][0]), name_of(answers, old[room][ask][1])) for ask in places(asks)]
        for room in places(rooms)
    ]
    return (machine[0], tuple([tuple(room) for room in cells]))


def places(order):
    """The list of the places at which an order has 0, 1, and so on."""
    return sorted(range(len(order)), key=lambda place: order[place])


def name_of(order, number):
    """The other name of a number by an order; what is open has none."""
    return None if number is None else order[number]
