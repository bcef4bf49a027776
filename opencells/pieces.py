"""Pieces: ands of bits, and of bits turned by not, written as texts of the signs 0, 1 and -."""


def has(piece, point):
    """Whether a piece has a point."""
    return all([sign == "-" or sign == bit_sign(point, k) for k, sign in enumerate(piece)])


def bit_of(number, k):
    """Bit k of a number: 0 or 1."""
    return (number >> k) & 1


def bit_sign(point, k):
    """Bit k of a point, as a sign."""
    return str(bit_of(point, k))


def join(v, one, other):
    """The piece with - just where the bits of two points are unlike."""
    return piece_of(v, one, one ^ other)


def piece_of(v, point, dashes):
    """The piece that has a point, with - for each bit that is 1 in dashes."""
    return "".join(["-" if bit_of(dashes, k) == 1 else bit_sign(point, k) for k in range(v)])


def greatest_pieces(v, off, point):
    """The rising list of the free pieces of a point that aren't free with any one more sign made -."""
    unlike = [point ^ other for other in off]
    free = {dashes: True for dashes in range(1 << v) if is_free(unlike, dashes)}
    greatest = [dashes for dashes in free if not any([more in free for more in one_more(v, dashes)])]
    return sorted([piece_of(v, point, dashes) for dashes in greatest])


def one_more(v, dashes):
    """The dashes, each time with one more of v bits made 1."""
    return [dashes | (1 << k) for k in range(v) if bit_of(dashes, k) == 0]


def is_free(unlike, dashes):
    """Whether a piece with these dashes has none of some points, by the bits in which each is unlike its point."""
    # It has a point just where all unlike bits are dashes.
    return all([bits | dashes != dashes for bits in unlike])
