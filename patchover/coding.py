"""Patches as bytes: their code, and how it is read."""

from patchover.errors import BadCode
from patchover.pieces import check_patch, length_of

# A word's place here is its rest by four in a piece's number.
WORDS = ("copy", "bring", "run")
NO_WORD = 3
SEVENS = 128
# A patch has no number that takes more bytes than this.
MOST_SEVENS = 2
CHECK = 251


def coded(patch):
    """Tell the code of a patch."""
    check_patch(patch)
    some = number_code(len(patch))
    for piece in patch:
        some += piece_code(piece)
    return with_check(some)


def decoded(some):
    """Tell the patch of a code."""
    patch, end = code_at(some, 0)
    if end < len(some):
        raise BadCode(end)
    check_patch(patch)
    return patch


def size(patch):
    """Tell how many bytes the code of a patch has."""
    check_patch(patch)
    # The last one is the check.
    return number_size(len(patch)) + sum([piece_size(piece) for piece in patch]) + 1


def number_code(number):
    """Tell the code of a number, by sevens, in as many bytes as it needs."""
    told = []
    while number >= SEVENS:
        told.append(SEVENS + (number & (SEVENS - 1)))
        number = number // SEVENS
    return bytes([*told, number])


def number_size(number):
    """Tell how many bytes the code of a patch's number has."""
    return 1 if number < SEVENS else MOST_SEVENS


def first_number(piece):
    """Tell the number with which a piece's code begins: how many bytes it makes, and its word."""
    return length_of(piece) * 4 + WORDS.index(piece[0])


def piece_code(piece):
    """Tell the code of a piece."""
    some = number_code(first_number(piece))
    if piece[0] == "copy":
        return some + number_code(piece[1])
    if piece[0] == "bring":
        return some + piece[1]
    return some + bytes([piece[1]])


def piece_size(piece):
    """Tell how many bytes the code of a piece has."""
    many = number_size(first_number(piece))
    if piece[0] == "copy":
        return many + number_size(piece[1])
    if piece[0] == "bring":
        return many + len(piece[1])
    return many + 1


def check_of(some):
    """Tell the check that stands behind these bytes."""
    return sum(some) % CHECK


def with_check(some):
    """Tell these bytes with their check behind them."""
    return some + bytes([check_of(some)])


def code_at(some, begin):
    """Read the code that begins at a place, and tell its pieces and the place behind it."""
    many, place = number_at(some, begin)
    pieces, place = several_at(piece_at, some, place, many)
    return tuple(pieces), check_at(some, begin, place)


def several_at(one_at, some, place, many):
    """Read so many of what one_at reads, and tell a list of them and the place behind the last one."""
    told = []
    for _ in range(many):
        one, place = one_at(some, place)
        told.append(one)
    return told, place


def check_at(some, begin, place):
    """Read the check of all bytes from begin on, and tell the place behind it."""
    if byte_at(some, place) != check_of(some[begin:place]):
        raise BadCode(place)
    return place + 1


def byte_at(some, place):
    """Read the byte at a place."""
    if place >= len(some):
        raise BadCode(len(some))
    return some[place]


def bytes_at(some, place, many):
    """Read so many bytes from a place on, and tell them and the place behind them."""
    if place + many > len(some):
        raise BadCode(len(some))
    return some[place:place + many], place + many


def number_at(some, begin, most=MOST_SEVENS):
    """Read the number of at most so many bytes that begins at a place, and tell it and the place behind it."""
    number = 0
    worth = 1
    for place in range(begin, begin + most):
        byte = byte_at(some, place)
        number += (byte & (SEVENS - 1)) * worth
        worth *= SEVENS
        if byte == 0 and place > begin:
            raise BadCode(place)
        if byte < SEVENS:
            return number, place + 1
    raise BadCode(begin + most - 1)


def piece_at(some, place):
    """Read the piece that begins at a place, and tell it and the place behind it."""
    # Ahead of its second byte, for the rest by four is told by the first one alone.
    if byte_at(some, place) & 3 == NO_WORD:
        raise BadCode(place)
    number, behind = number_at(some, place)
    many = number // 4
    if many == 0:
        raise BadCode(place)
    word = WORDS[number & 3]
    if word == "copy":
        begin, behind = number_at(some, behind)
        return ("copy", begin, many), behind
    if word == "run":
        return ("run", byte_at(some, behind), many), behind + 1
    brought, behind = bytes_at(some, behind, many)
    return ("bring", brought), behind
