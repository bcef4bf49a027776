"""Machines of bits: nets that come to words and say answers, in the place of rooms."""

from opencells.nets import net_fault, says
from opencells.words import ANSWER_BITS, bits_of, refuse_no_words, tables


def bit_fault(machine, words, bits):
    """The fault of a machine of bits for a machine and words; None where it runs as the rooms do."""
    refuse_no_words(machine, words)
    if not has_counts(bits_of(machine), bits):
        return ("counts",)
    for j, (on, off) in enumerate(tables(machine, words)):
        fault = net_fault(on, off, bits[2][j])
        if fault is not None:
            return (j, fault)
    return None


def has_counts(counts, bits):
    """Whether a machine of bits has these counts of bits, as many nets as belong to them, and pieces as long."""
    b, c, nets = bits
    if (b, c) != counts or len(nets) != b + ANSWER_BITS:
        return False
    return all([len(piece) == b + c for net in nets for piece in net])


def step(bits, word, ask):
    """The word that a machine of bits comes to at a word and an ask, and the answer that it says: a tuple."""
    b, c, nets = bits
    point = word + (ask << b)
    said = [says(net, point) for net in nets]
    return (number_of(said[:b]), number_of(said[b:]))


def number_of(bits):
    """The number whose bit k is the one at place k."""
    return sum([bit << k for k, bit in enumerate(bits)])


def bit_run(bits, word, row):
    """Go a row from a word: a tuple of the list of the answers, and the word at the end."""
    answers = []
    here = word
    for ask in row:
        here, answer = step(bits, here, ask)
        answers.append(answer)
    return (answers, here)
