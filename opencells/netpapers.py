"""Papers that show that an asked table needs so many pieces, whoever wrote them."""

from opencells.machines import are_unlike_below, is_below
from opencells.nets import says
from opencells.papers import is_form
from opencells.pieces import greatest_pieces, has, join


def needs_pieces(v, on, off, many, thing):
    """Whether a thing, whatever it is, is a paper that so many pieces are needed."""
    if is_form(thing, "spread", 2):
        return are_spread(v, on, off, many, thing[1])
    if is_form(thing, "tries", 2):
        return is_tree_of_pieces(v, on, off, many - 1, thing[1])
    return False


def are_spread(v, on, off, many, points):
    """Whether points are as many unlike points of on, no two of which can be in one piece."""
    if not are_unlike_below(points, many, 1 << v) or not all([point in on for point in points]):
        return False
    joins = [join(v, one, other) for at, one in enumerate(points) for other in points[at + 1:]]
    # Each piece that has two points has all that their join has.
    return all([any([has(piece, point) for point in off]) for piece in joins])


def is_tree_of_pieces(v, on, off, m, thing):
    """Whether a thing is a tree for the first try for m pieces."""
    waiting = [((), thing)]
    while waiting:
        pieces, tree = waiting.pop()
        fewer = len(pieces) < m
        if not (is_form(tree, "point", 3) if fewer else is_form(tree, "left", 2)):
            return False
        if not is_lacked(v, on, pieces, tree[1]):
            return False
        if fewer:
            behind = [pieces + (piece,) for piece in greatest_pieces(v, off, tree[1])]
            if not isinstance(tree[2], tuple) or len(tree[2]) != len(behind):
                return False
            waiting += list(zip(behind, tree[2]))
    return True


def is_lacked(v, on, pieces, thing):
    """Whether a thing is a point of on that none of some pieces has."""
    return is_below(thing, 1 << v) and thing in on and says(pieces, thing) == 0
