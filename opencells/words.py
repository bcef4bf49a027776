"""Words of bits for a machine's rooms, and the tables of bits that nets must say."""

from opencells.errors import NoWords, TooMany
from opencells.machines import are_unlike_below
from opencells.pieces import bit_of

MOST_WITH_WORDS = 8
ANSWER_BITS = 3


def bits_of(machine):
    """A tuple of how many bits the words have, and how many bits there are for asks."""
    asks, rooms = machine
    if len(rooms) > MOST_WITH_WORDS:
        raise TooMany("words are for machines of at most 8 rooms")
    # The greatest number needs the most bits; but words always have one.
    return (max(1, (len(rooms) - 1).bit_length()), (asks - 1).bit_length())


def is_words(machine, thing):
    """Whether a thing, whatever it is, is words for a machine."""
    return are_unlike_below(thing, len(machine[1]), 1 << bits_of(machine)[0])


def refuse_no_words(machine, thing):
    """Refuse a thing that is no words for a machine."""
    if not is_words(machine, thing):
        raise NoWords("words are unlike numbers, one for each room, each of as many bits as the machine has")


def tables(machine, words):
    """The list of the tables (on, off) of the bits of the words come to, then of the answers said."""
    refuse_no_words(machine, words)
    b = bits_of(machine)[0]
    come_to = {}
    said = {}
    for word, room in zip(words, machine[1]):
        for ask, (goes, says) in enumerate(room):
            point = word + (ask << b)
            if goes is not None:
                come_to[point] = words[goes]
            if says is not None:
                said[point] = says
    return [table_of(come_to, bit) for bit in range(b)] + [table_of(said, bit) for bit in range(ANSWER_BITS)]


def table_of(numbers, bit):
    """The points at which a bit of the number there is 1, and those at which it is 0."""
    points = sorted(numbers)
    on = [point for point in points if bit_of(numbers[point], bit) == 1]
    off = [point for point in points if bit_of(numbers[point], bit) == 0]
    return (tuple(on), tuple(off))
