"""Nets: ors of pieces, their faults, and the least ones with papers that fewer pieces can't."""

from opencells.pieces import greatest_pieces, has
from opencells.turns import go_through, least_out, tree_of_steps


def says(net, point):
    """What a net says at a point: 1 where some piece has it, else 0."""
    return 1 if any([has(piece, point) for piece in net]) else 0


def first_lacked(on, net):
    """The first of some points that no piece of a net has; None where there is none."""
    for point in on:
        if says(net, point) == 0:
            return point
    return None


def net_fault(on, off, net):
    """The fault of a net for an asked table; None where it is right."""
    lacked = first_lacked(on, net)
    if lacked is not None:
        return ("lacks", lacked)
    for k, piece in enumerate(net):
        for point in off:
            if has(piece, point):
                return ("has", k, point)
    return None


def look_at(on, greatest, m, pieces):
    """Look at a try for m pieces, as go_through asks: what comes out are its pieces.

    greatest has the greatest pieces of each point of on.
    """
    lacked = first_lacked(on, pieces)
    if lacked is None:
        return (pieces, None, None)
    if len(pieces) == m:
        return (None, ("left", lacked), None)
    return (None, ("point", lacked), [pieces + (piece,) for piece in greatest[lacked]])


def through_pieces(on, greatest, m, most):
    """Go through the tries for m pieces: a tuple (count, out, steps), as of go_through."""
    return go_through((), lambda pieces: look_at(on, greatest, m, pieces), most)


def least_net(v, on, off):
    """A tuple of a net of the fewest pieces that is right for an asked table, and a paper or None."""
    greatest = {point: greatest_pieces(v, off, point) for point in on}
    net, steps = least_out(0, lambda m, most: through_pieces(on, greatest, m, most))
    return (net, None if steps is None else ("tries", tree_of_steps(steps)))
