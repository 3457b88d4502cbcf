"""What patches make, and which patches are alike."""

from patchover.errors import BadCount, BadMeet
from patchover.pieces import cells_of, check_edition, check_patch, check_reach, length_of

# Fewer of one byte than this aren't a run in a plain patch.
LEAST_RUN = 3


def done(patch, edition):
    """Tell the new edition that a patch makes of an old one."""
    told = cells(patch)
    check_edition(edition)
    check_reach(patch, edition)
    return bytes([edition[worth] if word == "old" else worth for word, worth in told])


def needs(patch):
    """Tell how many bytes an old edition must have at the least."""
    check_patch(patch)
    return max([piece[1] + piece[2] for piece in patch if piece[0] == "copy"], default=0)


def makes(patch):
    """Tell how many bytes the new edition has."""
    check_patch(patch)
    return sum([length_of(piece) for piece in patch])


def cells(patch):
    """Tell for each byte of the new edition ("old", number) or ("new", byte)."""
    check_patch(patch)
    told = []
    for piece in patch:
        told.extend(cells_of(piece))
    return told


def plain(patch):
    """Tell the plain patch of all that are alike to this one."""
    return plain_of(cells(patch))


def joined(patches):
    """Tell the plain patch that makes what these make, one behind the other."""
    if not patches:
        raise BadCount("there must be one patch at least")
    for patch in patches:
        check_patch(patch)
    for number in range(1, len(patches)):
        if needs(patches[number]) > makes(patches[number - 1]):
            raise BadMeet(number)
    told = cells(patches[0])
    for patch in patches[1:]:
        told = led_back(cells(patch), told)
    return plain_of(told)


def led_back(told, ahead):
    """Tell what cells are, by the old edition of the patch ahead, whose cells are handed in."""
    return [ahead[worth] if word == "old" else (word, worth) for word, worth in told]


def plain_of(told):
    """Tell the plain patch that has these cells."""
    patch = []
    for cell, many in stretches(told):
        piece = plain_piece(cell, many)
        if piece[0] == "bring" and patch and patch[-1][0] == "bring":
            piece = ("bring", patch.pop()[1] + piece[1])
        patch.append(piece)
    return tuple(patch)


def stretches(told):
    """Tell (first cell, many) of the longest stretches that are one copy, or one byte throughout."""
    found = []
    for cell in told:
        if found and goes_on(found[-1], cell):
            first, many = found.pop()
            found.append((first, many + 1))
        else:
            found.append((cell, 1))
    return found


def goes_on(stretch, cell):
    """Tell whether a cell belongs to the stretch that ends ahead of it."""
    (word, worth), many = stretch
    if word == "old":
        return cell == ("old", worth + many)
    return cell == ("new", worth)


def plain_piece(cell, many):
    """Tell the piece of a stretch, as it stands in a plain patch."""
    word, worth = cell
    if word == "old":
        return ("copy", worth, many)
    if many >= LEAST_RUN:
        return ("run", worth, many)
    return ("bring", bytes([worth] * many))
