"""Numbers, editions and the pieces of patches: what each of them may be."""

from patchover.errors import BadCount, BadEdition, BadPatch, Beyond

# No edition has more bytes than this, and no patch makes more.
MOST = 200
LAST_BYTE = 255


def bytes_of(numbers):
    """Tell the bytes of a list of numbers."""
    for number in numbers:
        if not is_number(number, 0, LAST_BYTE):
            raise BadCount(f"{number} is no byte")
    return bytes(numbers)


def numbers_of(some):
    """Tell the numbers of bytes, as a list."""
    return list(some)


def is_number(what, least, most):
    """Tell whether this is a whole number from least to most."""
    # Python counts True and False among its integers, the document doesn't.
    return isinstance(what, int) and not isinstance(what, bool) and least <= what <= most


def can_be(piece):
    """Tell whether this is a piece, whatever stands beside it."""
    if not isinstance(piece, tuple):
        return False
    if len(piece) == 2:
        word, some = piece
        return word == "bring" and isinstance(some, bytes) and 1 <= len(some) <= MOST
    if len(piece) != 3:
        return False
    word, first, many = piece
    if not is_number(many, 1, MOST):
        return False
    if word == "copy":
        return is_number(first, 0, MOST - many)
    return word == "run" and is_number(first, 0, LAST_BYTE)


def length_of(piece):
    """Tell how many bytes a piece comes to."""
    if piece[0] == "bring":
        return len(piece[1])
    return piece[2]


def cells_of(piece):
    """Tell for each byte of a piece ("old", number) or ("new", byte)."""
    if piece[0] == "copy":
        return [("old", number) for number in range(piece[1], piece[1] + piece[2])]
    if piece[0] == "bring":
        return [("new", byte) for byte in piece[1]]
    return [("new", piece[1])] * piece[2]


def check_edition(edition):
    """Refuse an edition that can't be."""
    if len(edition) > MOST:
        raise BadEdition(f"{len(edition)} bytes are too many")


def check_patch(patch):
    """Refuse a patch that can't be, by the first piece that shows it."""
    total = 0
    for at, piece in enumerate(patch):
        if not can_be(piece):
            raise BadPatch(at)
        total += length_of(piece)
        if total > MOST:
            raise BadPatch(at)


def check_reach(patch, edition):
    """Refuse a patch that copies what an old edition hasn't."""
    for at, piece in enumerate(patch):
        if piece[0] == "copy" and piece[1] + piece[2] > len(edition):
            raise Beyond(at)
