"""The document's words of told rows taken straight, slow and apart from the package."""


def beginnings(sheet):
    """The rooms of a sheet's tree, in their order."""
    rooms = [()]
    for row, answers in sheet:
        for many in range(len(row)):
            if row[:many] not in rooms:
                rooms.append(row[:many])
    return rooms


def first_clash(sheet):
    """The first (row, place) whose answer is unlike one told ahead of it, None where there is none."""
    for k, (row, answers) in enumerate(sheet):
        for place in range(len(row)):
            for ahead, told in sheet[:k]:
                if ahead[:place + 1] == row[:place + 1]:
                    if None not in (told[place], answers[place]) and told[place] != answers[place]:
                        return (k, place)
    return None


def tree_of(asks, sheet):
    """The tree of a sheet without a clash."""
    rooms = beginnings(sheet)

    def cell(room, ask):
        longer = room + (ask,)
        told = {answers[len(room)] for row, answers in sheet if row[:len(longer)] == longer} - {None}
        return (rooms.index(longer) if longer in rooms else None, told.pop() if told else None)

    return (asks, tuple(tuple(cell(room, ask) for ask in range(asks)) for room in rooms))


def first_disagreeing(machine, sheet):
    """The first (row, place) where a machine doesn't agree with a sheet, None where it does."""
    for k, (row, answers) in enumerate(sheet):
        room = 0
        for place, (ask, answer) in enumerate(zip(row, answers)):
            if room is None:
                return (k, place)
            goes, says = machine[1][room][ask]
            if answer is not None and says != answer:
                return (k, place)
            room = goes
    return None
