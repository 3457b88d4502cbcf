"""Patches as bytes: their code, and how it is read."""

from patchover.errors import BadCode
from patchover.pieces import check_patch, length_of

# A word's place here is its rest by four in a piece's number.
WORDS = ("copy", "bring", "run")
NO_WORD = 3
SEVENS = 128
CHECK = 251


def coded(patch):
    """Tell the code of a patch."""
    check_patch(patch)
    some = number_code(len(patch))
    for piece in patch:
        some += piece_code(piece)
    return some + bytes([check_of(some)])


def decoded(some):
    """Tell the patch of a code."""
    patch, end = code_at(some, 0)
    if end < len(some):
        raise BadCode(end)
    check_patch(patch)
    return patch


def size(patch):
    """Tell how many bytes the code of a patch has."""
    check_patch(patch)
    # The last one is the check.
    return number_size(len(patch)) + sum([piece_size(piece) for piece in patch]) + 1


def number_code(number):
    """Tell the code of a number."""
    if number < SEVENS:
        return bytes([number])
    return bytes([SEVENS + (number & (SEVENS - 1)), number // SEVENS])


def number_size(number):
    """Tell how many bytes the code of a number has."""
    return 1 if number < SEVENS else 2


def first_number(piece):
    """Tell the number with which a piece's code begins: how many bytes it makes, and its word."""
    return length_of(piece) * 4 + WORDS.index(piece[0])


def piece_code(piece):
    """Tell the code of a piece."""
    some = number_code(first_number(piece))
    if piece[0] == "copy":
        return some + number_code(piece[1])
    if piece[0] == "bring":
        return some + piece[1]
    return some + bytes([piece[1]])


def piece_size(piece):
    """Tell how many bytes the code of a piece has."""
    many = number_size(first_number(piece))
    if piece[0] == "copy":
        return many + number_size(piece[1])
    if piece[0] == "bring":
        return many + len(piece[1])
    return many + 1


def check_of(some):
    """Tell the check that stands behind these bytes."""
    return sum(some) % CHECK


def code_at(some, begin):
    """Read the code that begins at a place, and tell its pieces and the place behind it."""
    many, place = number_at(some, begin)
    pieces = []
    for _ in range(many):
        piece, place = piece_at(some, place)
        pieces.append(piece)
    if byte_at(some, place) != check_of(some[begin:place]):
        raise BadCode(place)
    return tuple(pieces), place + 1


def byte_at(some, place):
    """Read the byte at a place."""
    if place >= len(some):
        raise BadCode(len(some))
    return some[place]


def number_at(some, place):
    """Read the number that begins at a place, and tell it and the place behind it."""
    first = byte_at(some, place)
    if first < SEVENS:
        return first, place + 1
    times = byte_at(some, place + 1)
    if times == 0 or times >= SEVENS:
        raise BadCode(place + 1)
    return first - SEVENS + times * SEVENS, place + 2


def piece_at(some, place):
    """Read the piece that begins at a place, and tell it and the place behind it."""
    # Ahead of its second byte, for the rest by four is told by the first one alone.
    if byte_at(some, place) & 3 == NO_WORD:
        raise BadCode(place)
    number, behind = number_at(some, place)
    many = number // 4
    if many == 0:
        raise BadCode(place)
    word = WORDS[number & 3]
    if word == "copy":
        begin, behind = number_at(some, behind)
        return ("copy", begin, many), behind
    if word == "run":
        return ("run", byte_at(some, behind), many), behind + 1
    if behind + many > len(some):
        raise BadCode(len(some))
    return ("bring", some[behind:behind + many]), behind + many
