"""Things spoilt in one place, whatever they are: for what is told of anything."""

ODD = (True, False, None, -1, 0, 1, 2, 24, 10 ** 30, "", "cut", (), [], (0,), b"gap")


def spoilt(thing):
    """All things that are the thing with one part of it, however far within, put otherwise."""
    yield from ODD
    if isinstance(thing, tuple):
        yield list(thing)
        yield from spoilt_within(thing)
    elif isinstance(thing, str):
        yield from (thing.upper(), thing + " ", thing.encode(), list(thing), tuple(thing))
    elif isinstance(thing, int):
        yield from (thing + 1, thing - 1, str(thing), [thing], (thing,), {thing: thing})


def spoilt_within(thing):
    """The tuple with one of its things left out, twice, exchanged with the next, spoilt, or one more at the end."""
    for at, part in enumerate(thing):
        yield thing[:at] + thing[at + 1:]
        yield thing[:at] + (part, part) + thing[at + 1:]
        if at:
            yield thing[:at - 1] + (part, thing[at - 1]) + thing[at + 1:]
        for other in spoilt(part):
            yield thing[:at] + (other,) + thing[at + 1:]
    for more in (None, 0, (), "cut"):
        yield thing + (more,)
