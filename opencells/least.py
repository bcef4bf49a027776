"""The least machine that stands in another one's place, and papers that none of fewer rooms can."""

from opencells.lotmachines import answer_of
from opencells.partings import parted_pairs, parting
from opencells.tries import through_tries
from opencells.turns import MOST_TRIES, least_out, tree_of_steps


def paper_for(machine, many):
    """A paper that so many rooms are needed; None where a try for one less comes out."""
    steps = through_tries(machine, parted_pairs(machine), many - 1, MOST_TRIES)[2]
    return None if steps is None else paper_of(machine, steps)


def paper_of(machine, steps):
    """The paper of the steps of tries of which none came out."""
    rows = {}
    whole = []
    for head, many in steps:
        if head[0] == "cut":
            two = (head[2], head[3])
            # The same two rooms cut many tries; their row is looked for once.
            if two not in rows:
                rows[two] = parting(machine, head[2], head[3])
            whole.append((head + (rows[two],), None))
        else:
            whole.append((head, many))
    return ("tries", tree_of_steps(whole))


def least(machine):
    """A tuple of the machine of least rooms that stands in this one's place, its lots, and a paper or None."""
    pairs = parted_pairs(machine)
    (lots, ways), steps = least_out(1, lambda m, most: through_tries(machine, pairs, m, most))
    paper = None if steps is None else paper_of(machine, steps)
    return (machine_by_ways(machine, lots, ways), lots, paper)


def machine_by_ways(machine, lots, ways):
    """The machine with a room for each lot of a try that came out."""
    asks = machine[0]
    rooms = [
        tuple([(ways.get((i, ask)), answer_of(machine, lot, ask)) for ask in range(asks)])
        for i, lot in enumerate(lots)
    ]
    return (asks, tuple(rooms))
