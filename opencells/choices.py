"""The least nets for words, and the words whose nets have the fewest pieces."""

from opencells.errors import TooMany
from opencells.nets import least_net
from opencells.words import bits_of, tables

MOST_ROOMS_TO_CHOOSE = 4
MOST_ASKS_TO_CHOOSE = 2


def nets_for(machine, words):
    """The machine of bits of the least nets for words."""
    asked = tables(machine, words)
    b, c = bits_of(machine)
    return (b, c, tuple([least_net(b + c, on, off)[0] for on, off in asked]))


def words_for(machine):
    """The first words with the fewest pieces in all: a tuple of these, their machine of bits, and how many pieces."""
    asks, rooms = machine
    if len(rooms) > MOST_ROOMS_TO_CHOOSE or asks > MOST_ASKS_TO_CHOOSE:
        raise TooMany("words are chosen for at most 4 rooms and at most 2 asks")
    best = None
    for words in all_words(machine):
        bits = nets_for(machine, words)
        many = sum([len(net) for net in bits[2]])
        if best is None or many < best[2]:
            best = (words, bits, many)
    return best


def all_words(machine):
    """The rising list of all words for a machine."""
    count = 1 << bits_of(machine)[0]
    found = [()]
    for room in machine[1]:
        found = [words + (word,) for words in found for word in range(count) if word not in words]
    return found
