"""The patch with the shortest code from one edition to another."""

from patchover.coding import piece_size
from patchover.pieces import check_edition, length_of


def least(old, new):
    """Tell the patch with the shortest code that makes the new edition of the old one."""
    check_edition(old)
    check_edition(new)
    # From the last byte back, so that the least from behind each next piece is known already. Of
    # patches that make the same none begins another one, so the first piece tells the first patch.
    # How many pieces there are always takes one byte, for 128 of them are longer than one bring.
    sizes = [0] * (len(new) + 1)
    firsts = [()] * len(new)
    for at in reversed(range(len(new))):
        sizes[at], firsts[at] = min([
            (piece_size(piece) + sizes[at + length_of(piece)], piece)
            for piece in next_pieces(old, new, at)
        ])
    return one_behind_the_other(firsts)


def one_behind_the_other(firsts):
    """Tell the patch of pieces, of which for each byte the one stands here that begins with it."""
    patch = []
    at = 0
    while at < len(firsts):
        patch.append(firsts[at])
        at += length_of(firsts[at])
    return tuple(patch)


def next_pieces(old, new, at):
    """Tell pieces that make the new edition from a byte on; of copies of as many bytes the first alone."""
    found = []
    for end in range(at + 1, len(new) + 1):
        found.append(("bring", new[at:end]))
    return found + next_copies(old, new, at) + next_runs(new, at)


def next_copies(old, new, at):
    """Tell of each length the first copy that makes the new edition from a byte on."""
    found = []
    for end in range(at + 1, len(new) + 1):
        # A later place hasn't a shorter code.
        begin = old.find(new[at:end])
        if begin < 0:
            break
        found.append(("copy", begin, end - at))
    return found


def next_runs(new, at):
    """Tell the runs that make the new edition from a byte on."""
    found = []
    for end in range(at + 1, len(new) + 1):
        if new[end - 1] != new[at]:
            break
        found.append(("run", new[at], end - at))
    return found
