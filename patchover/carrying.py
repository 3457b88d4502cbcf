"""The lightest copies that must be brought instead, so that a patch can be done in place."""

from patchover.errors import BadPieces, TooMany
from patchover.hanging import hung_from
from patchover.pieces import check_edition, check_patch, check_reach, is_number, length_of

# All lots of a knot are tried out, so a knot has no more pieces than this.
MOST_IN_KNOT = 14


def lightest(patch):
    """Tell (many, pieces): the lightest lot of copies without which there is an order."""
    others = hung_from(patch)
    found = knots(others)
    for knot in found:
        if len(knot) > MOST_IN_KNOT:
            raise TooMany(f"{len(knot)} pieces each hang ahead of each other one")
    pieces = []
    for knot in found:
        # No ring leaves its knot, and no lightest lot is a part of another one: so the first
        # lots of all knots together are the first of all.
        pieces.extend(lightest_of(knot, others, [length_of(patch[piece]) for piece in knot]))
    return sum([length_of(patch[piece]) for piece in pieces]), sorted(pieces)


def brought(patch, pieces, edition):
    """Tell the patch in which these copies of an old edition are brought."""
    check_patch(patch)
    check_copies(patch, pieces)
    check_edition(edition)
    check_reach(patch, edition)
    return tuple([
        as_brought(piece, edition) if at in pieces else piece for at, piece in enumerate(patch)
    ])


def as_done(patch, edition):
    """Tell a patch as it's done in place: with lightest's pieces brought of the old edition."""
    return brought(patch, lightest(patch)[1], edition)


def check_copies(patch, pieces):
    """Refuse a list that isn't one of copies, rising."""
    least = 0
    for number in pieces:
        if not is_number(number, least, len(patch) - 1) or patch[number][0] != "copy":
            raise BadPieces(f"{number} is no copy, or doesn't rise")
        least = number + 1


def as_brought(piece, edition):
    """Tell the piece that brings what a copy copies."""
    return ("bring", edition[piece[1]:piece[1] + piece[2]])


def knots(others):
    """Tell the lists of pieces that each hang, perhaps by others, ahead of each other one."""
    behind = {piece: reached(others, piece) for piece in others}
    found = []
    for first in others:
        knot = sorted([other for other in behind[first] if first in behind[other]])
        # Each piece of a knot finds it, but it's one knot.
        if knot and knot[0] == first:
            found.append(knot)
    return found


def reached(others, first):
    """Tell the pieces of which one hangs ahead, perhaps by others, as keys."""
    known = {}
    left = [first]
    while left:
        one = left.pop()
        for other in others[one]:
            if other not in known:
                known[other] = True
                left.append(other)
    return known


def lightest_of(knot, others, weights):
    """Tell the lightest lot of a knot's pieces without which it has no ring; of several the first."""
    # A lot of a knot's pieces is a number that has a bit for each of them.
    free = lots_without_rings([bits_of(knot, others[piece]) for piece in knot])
    totals = [0]
    for weight in weights:
        totals = totals + [total + weight for total in totals]
    most = max([total for lot, total in enumerate(totals) if free[lot]])
    return min([
        [piece for at, piece in enumerate(knot) if not lot >> at & 1]
        for lot, total in enumerate(totals) if free[lot] and total == most
    ])


def bits_of(knot, pieces):
    """Tell the lot of those of a knot that are among these pieces."""
    return sum([1 << at for at, piece in enumerate(knot) if piece in pieces])


def lots_without_rings(nexts):
    """Tell for each lot whether there is no ring of its pieces, told for each the lot that hangs from it."""
    free = [True]
    for lot in range(1, 1 << len(nexts)):
        free.append(is_free(lot, nexts, free))
    return free


def is_free(lot, nexts, free):
    """Tell whether there is no ring of a lot's pieces, told this of all smaller lots."""
    for at, hung in enumerate(nexts):
        # A piece that hangs ahead of none of the lot is in no ring of it.
        if lot >> at & 1 and not hung & lot:
            return free[lot ^ (1 << at)]
    return False
