"""The document's words of pieces and nets taken straight, slow and apart from the package."""

import functools
import itertools

from tests.brute import TooLong, is_number


def piece_has(piece, point):
    """Whether a piece has a point: by the point's figures, the first of them last."""
    bits = bin(point)[2:].zfill(len(piece))[::-1]
    return all(sign in ("-", bit) for sign, bit in zip(piece, bits, strict=True))


def all_pieces(v):
    """All pieces of v signs, rising."""
    return sorted("".join(signs) for signs in itertools.product("-01", repeat=v))


def is_free(piece, off):
    """Whether a piece has no point of off."""
    return not any(piece_has(piece, point) for point in off)


@functools.lru_cache(maxsize=None)
def greatest_pieces(v, off, point):
    """All greatest pieces of a point, rising."""
    found = []
    for piece in all_pieces(v):
        if piece_has(piece, point) and is_free(piece, off):
            more = [piece[:k] + "-" + piece[k + 1:] for k in range(v) if piece[k] != "-"]
            if not any(is_free(other, off) for other in more):
                found.append(piece)
    return tuple(found)


def lacked(on, pieces):
    """The points of on that no piece has."""
    return [point for point in on if not any(piece_has(piece, point) for piece in pieces)]


class NetTries:
    """Tries for m pieces, gone through one within the other."""

    def __init__(self, v, on, off, m, limit=300):
        self.on, self.m, self.limit = on, m, limit
        self.greatest = {point: greatest_pieces(v, off, point) for point in on}
        self.count = 0
        self.net = None
        self.look(())

    def look(self, pieces):
        """Whether this try, or one that it leads to, comes out."""
        self.count += 1
        if self.count > self.limit:
            raise TooLong
        left = lacked(self.on, pieces)
        if not left:
            self.net = pieces
            return True
        return len(pieces) < self.m and any(self.look(pieces + (piece,)) for piece in self.greatest[left[0]])


def least_net(v, on, off):
    """The net of the try that comes out, and how many tries counted together; TooLong beyond 300."""
    total = 0
    for m in itertools.count():
        tries = NetTries(v, on, off, m, 300 - total)
        total += tries.count
        if tries.net is not None:
            return tries.net, total


def is_paper(v, on, off, many, thing):
    """Whether a thing is a paper that a table needs so many pieces."""
    if type(thing) is not tuple or len(thing) != 2:
        return False
    if thing[0] == "spread":
        return is_spread(v, on, off, many, thing[1])
    return thing[0] == "tries" and is_tree(v, on, off, many - 1, (), thing[1])


def is_spread(v, on, off, many, points):
    """Whether points are as many unlike points of on, each two of which no free piece has."""
    if type(points) is not tuple or len(points) != many:
        return False
    if not all(is_number(point, 1 << v) and point in on for point in points) or len(set(points)) != many:
        return False
    return not any(piece_has(piece, one) and piece_has(piece, other) and is_free(piece, off)
                   for piece in all_pieces(v) for one, other in itertools.combinations(points, 2))


def is_tree(v, on, off, m, pieces, thing):
    """Whether a thing is a tree for a try for m pieces."""
    if type(thing) is not tuple or len(thing) < 2 or not is_number(thing[1], 1 << v):
        return False
    if thing[1] not in lacked(on, pieces):
        return False
    if len(pieces) == m:
        return thing[0] == "left" and len(thing) == 2
    if thing[0] != "point" or len(thing) != 3 or type(thing[2]) is not tuple:
        return False
    greatest = greatest_pieces(v, off, thing[1])
    return len(greatest) == len(thing[2]) and all(
        is_tree(v, on, off, m, pieces + (piece,), tree) for piece, tree in zip(greatest, thing[2]))
