"""The steps of a patch that is done in place, and the marks from which one that was cut goes on."""

from patchover.errors import BadMarks, BadOrder
from patchover.hanging import hangs, moving, starts
from patchover.pieces import cells_of, check_patch, is_number


def steps(patch, order):
    """Tell (cell, what) of each cell that a patch writes, by an order, in turn."""
    check_patch(patch)
    check_order(patch, order)
    begins = starts(patch)
    told = []
    for piece in order:
        told.extend(piece_steps(patch[piece], begins[piece]))
    return told


def marks(steps):
    """Tell the fewest marks that keep steps safe, each as late as can be."""
    told = []
    read = {}
    for number, (cell, what) in enumerate(steps):
        if cell in read:
            told.append(number)
            read = {}
        if what[0] == "old":
            read[what[1]] = True
    return [*told, len(steps)] if steps else []


def unsafe(steps, marks):
    """Tell (one, other) of the first step that writes what one ahead of it, behind the same mark, reads."""
    check_marks(steps, marks)
    # For each cell that is read behind the last mark the first step that reads it.
    readers = {}
    for other, (cell, what) in enumerate(steps):
        if other in marks:
            readers = {}
        if cell in readers:
            return readers[cell], other
        if what[0] == "old":
            readers.setdefault(what[1], other)
    return None


def check_order(patch, turn):
    """Refuse a list that is no order, by its first place that can't be."""
    ahead = {piece: [] for piece in moving(patch)}
    for one, other in hangs(patch):
        ahead[other].append(one)
    stood = {}
    for number, piece in enumerate(turn):
        if not is_number(piece, 0, len(patch) - 1) or not may_stand(piece, ahead, stood):
            raise BadOrder(number)
        stood[piece] = True
    if len(stood) < len(ahead):
        raise BadOrder(len(turn))


def may_stand(piece, ahead, stood):
    """Tell whether a piece may stand behind others, told for each the pieces that hang ahead of it."""
    if piece not in ahead or piece in stood:
        return False
    return all([one in stood for one in ahead[piece]])


def piece_steps(piece, start):
    """Tell (cell, what) of each cell that a piece writes, in turn, told the first of them."""
    told = [(start + at, what) for at, what in enumerate(cells_of(piece))]
    # A copy must not write what it has yet to read itself.
    if piece[0] == "copy" and piece[1] < start:
        return told[::-1]
    return told


def check_marks(steps, marks):
    """Refuse marks that don't rise from 1 on, or don't end with the last step."""
    last = 0
    for mark in marks:
        if not is_number(mark, last + 1, len(steps)):
            raise BadMarks(f"{mark} is no mark of {len(steps)} steps, or doesn't rise")
        last = mark
    if last != len(steps):
        raise BadMarks(f"the last mark is {last}, the last of the steps {len(steps)}")
