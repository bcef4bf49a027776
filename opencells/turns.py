"""Tries gone through in their turn, whatever they are tries for, and the trees that their steps make.

A step is a tuple (head, many): head what a tree has ahead of its trees, many how many these are, None for a tree that
has none.
"""

from opencells.errors import TooMany

MOST_TRIES = 300


def go_through(first, look, most):
    """Go through the first try, and behind each try, ahead of all others, those to which it leads, till one comes out.

    look(a try) tells a tuple (out, head, tries): out what comes out of it, None where nothing does; else head that of
    its step, and tries the list of those to which it leads, None where it is cut. Told is a tuple (count, out, steps):
    how many tries were gone through; out None where none came out; steps the list of theirs, None where one came out.
    """
    waiting = [first]
    steps = []
    while waiting:
        if len(steps) >= most:
            raise TooMany("more tries than may be gone through")
        out, head, tries = look(waiting.pop())
        if out is not None:
            return (len(steps) + 1, out, None)
        if tries is None:
            steps.append((head, None))
        else:
            steps.append((head, len(tries)))
            waiting += tries[::-1]
    return (len(steps), None, steps)


def least_out(m, through):
    """Go through the tries for m, for one more, and so on, till one comes out, at most MOST_TRIES together.

    through(m, most) goes through those for m. Told is a tuple (out, steps): steps those for one less than came out,
    None where there was no such count.
    """
    wanted = m
    left = MOST_TRIES
    ahead = None
    count, out, steps = through(wanted, left)
    while out is None:
        wanted += 1
        left -= count
        ahead = steps
        count, out, steps = through(wanted, left)
    return (out, ahead)


def tree_of_steps(steps):
    """The tree of all steps, each of which has the trees of its tries behind it."""
    done = []
    # From the end on, all trees of a step are there when it is come to, the first of them last.
    for head, many in reversed(steps):
        if many is None:
            done.append(head)
        else:
            begin = len(done) - many
            trees = tuple(done[begin:][::-1])
            del done[begin:]
            done.append(head + (trees,))
    return done[0]
