"""Two machines gone together, by the same rows."""


def walk_both(machine, other, begin, fails):
    """Go all rows from a pair of rooms, one of each machine, as long as both lead to known rooms.

    fails(cell, cell) says of the two cells of an ask whether the row that asks it is looked for. Told is a tuple
    (row, pairs): row the shortest that is, of those as short the first as tuples, None where none is; pairs the list
    of the pairs of rooms come to, the first one too (all of them where row is None).
    """
    pairs = [begin]
    rows = [()]
    seen = {begin}
    at = 0
    # Taken in the order in which they are found, pairs come by their first rows, shorter ones first, then as tuples.
    while at < len(pairs):
        one, two = pairs[at]
        row = rows[at]
        at += 1
        for ask in range(machine[0]):
            cell = machine[1][one][ask]
            beside = other[1][two][ask]
            if fails(cell, beside):
                return (row + (ask,), pairs)
            behind = (cell[0], beside[0])
            if None not in behind and behind not in seen:
                seen.add(behind)
                pairs.append(behind)
                rows.append(row + (ask,))
    return (None, pairs)
