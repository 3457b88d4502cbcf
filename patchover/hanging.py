"""Patches that are done in place: which pieces must stand ahead of which, orders of all, and rings."""

from patchover.pieces import check_patch, is_number, length_of


def hangs(patch):
    """Tell (one, other) of all pieces of which one hangs ahead of the other, rising."""
    check_patch(patch)
    writers = writers_of(patch)
    found = []
    for one in moving(patch):
        for cell in cells_read(patch[one]):
            other = writers.get(cell, one)
            if other != one:
                found.append((one, other))
    return sorted(set(found))


def order(patch):
    """Tell the first order in which a patch can be done in place, or None."""
    others = hung_from(patch)
    waits = {piece: 0 for piece in others}
    for one in others:
        for other in others[one]:
            waits[other] += 1
    told = []
    free = [piece for piece in others if waits[piece] == 0]
    while free:
        one = min(free)
        free.remove(one)
        told.append(one)
        for other in others[one]:
            waits[other] -= 1
            if waits[other] == 0:
                free.append(other)
    return told if len(told) == len(others) else None


def ring(patch):
    """Tell the first of the shortest rings, or None, if there is an order."""
    others = hung_from(patch)
    best = None
    for first in others:
        found = ring_from(others, first)
        if found is not None and (best is None or len(found) < len(best)):
            best = found
    return best


def follows(patch, told):
    """Tell whether a list is an order, whichever is first."""
    pairs = hangs(patch)
    if not are_pieces(patch, told) or sorted(told) != moving(patch):
        return False
    return all([told.index(one) < told.index(other) for one, other in pairs])


def is_ring(patch, told):
    """Tell whether a list is a ring, whatever its length."""
    pairs = hangs(patch)
    if not are_pieces(patch, told) or len(told) < 2 or len(set(told)) < len(told):
        return False
    return all([pair in pairs for pair in zip(told, told[1:] + told[:1])])


def are_pieces(patch, told):
    """Tell whether a list has numbers of pieces alone."""
    return all([is_number(number, 0, len(patch) - 1) for number in told])


def starts(patch):
    """Tell for each piece the first cell that is its own."""
    told = []
    cell = 0
    for piece in patch:
        told.append(cell)
        cell += length_of(piece)
    return told


def moving(patch):
    """Tell the pieces that aren't idle, rising."""
    return [
        at for at, (piece, start) in enumerate(zip(patch, starts(patch)))
        if piece[0] != "copy" or piece[1] != start
    ]


def writers_of(patch):
    """Tell for each cell that is written the piece that writes it."""
    begins = starts(patch)
    told = {}
    for at in moving(patch):
        for cell in range(begins[at], begins[at] + length_of(patch[at])):
            told[cell] = at
    return told


def cells_read(piece):
    """Tell the cells that a piece reads."""
    if piece[0] == "copy":
        return list(range(piece[1], piece[1] + piece[2]))
    return []


def hung_from(patch):
    """Tell for each piece that isn't idle those of which it hangs ahead, all rising."""
    pairs = hangs(patch)
    told = {piece: [] for piece in moving(patch)}
    for one, other in pairs:
        told[one].append(other)
    return told


def ring_from(others, first):
    """Tell the first of the shortest rings that begin with a piece, or None."""
    # Paths of one length stand as lists go. So the first one to a piece is the first of the
    # shortest, and the first from which the ring closes is the one that is looked for.
    known = {first: True}
    paths = [[first]]
    while paths:
        longer = []
        for path in paths:
            for other in others[path[-1]]:
                if other == first:
                    return path
                if other not in known:
                    known[other] = True
                    longer.append([*path, other])
        paths = longer
    return None
