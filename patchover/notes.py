"""Patches and deeds as texts, and back."""

from patchover.errors import BadText, Halted, PatchError
from patchover.naming import is_lettered
from patchover.pieces import LAST_BYTE, check_patch

MOST_ROWS = 100
FIGURES = "0123456789"
# Numbers of patches, and those of scripts, have no more figures.
FEW = 3
MANY = 5

# The words of a script's rows, but put, and what stands behind each.
FORMS = {
    "lean": ("name", "name"), "whole": ("name",), "drop": ("name",), "tidy": (), "give": ("name",),
    "send": ("number", "name"), "go": ("number", "number"), "cut": ("number",), "wake": ("number",), "back": (),
}


def written(patch):
    """Tell a patch as a text."""
    check_patch(patch)
    return "\n".join([row_of(piece) for piece in patch])


def read(text):
    """Tell the patch of a text."""
    pieces = [piece_of(row.split(" ")) for row in rows_of(text)]
    if None in pieces:
        raise BadText(pieces.index(None))
    check_patch(pieces)
    return tuple(pieces)


def script_of(shop):
    """Tell the script of the deeds that a shop did."""
    return "\n".join([row_of(deed) for deed in shop.deeds()])


def played(shop, text):
    """Do the deeds of a script, and tell a list of what each told."""
    rows = rows_of(text)
    deeds = [deed_of(row.split(" ")) for row in rows[:MOST_ROWS]]
    if None in deeds:
        raise BadText(deeds.index(None))
    if len(rows) > MOST_ROWS:
        raise BadText(MOST_ROWS)
    told = []
    for row, deed in enumerate(deeds):
        try:
            told.append(shop.back() if deed == ("back",) else shop.do(deed))
        except PatchError:
            raise Halted(row) from None
    return told


def rows_of(text):
    """Tell the rows of a text; the empty one has none."""
    return text.split("\n") if text else []


def row_of(things):
    """Tell the row of a piece or a deed: its words, and bytes as numbers."""
    words = []
    for thing in things:
        if isinstance(thing, bytes):
            words.extend([str(byte) for byte in thing])
        else:
            words.append(str(thing))
    return " ".join(words)


def piece_of(words):
    """Tell the piece of a row's words, or None."""
    if words[0] == "bring" and len(words) > 1:
        return with_bytes(words[:1], words[1:], FEW)
    if words[0] not in ("copy", "run") or len(words) != 3:
        return None
    return with_things(words[0], [number_of(word, FEW) for word in words[1:]])


def deed_of(words):
    """Tell the deed of a row's words, or None."""
    if words[0] == "put" and len(words) > 1 and is_lettered(words[1]):
        return with_bytes(words[:2], words[2:], MANY)
    kinds = FORMS.get(words[0])
    if kinds is None or len(kinds) != len(words) - 1:
        return None
    return with_things(words[0], [thing_of(kind, word) for kind, word in zip(kinds, words[1:])])


def with_things(first, things):
    """Tell a tuple of a word and what stands behind it, or None, if a thing is None."""
    return None if None in things else (first, *things)


def with_bytes(ahead, words, figures):
    """Tell a tuple of some words and the bytes of others, or None, if one isn't a byte."""
    numbers = [number_of(word, figures) for word in words]
    if [number for number in numbers if number is None or number > LAST_BYTE]:
        return None
    return (*ahead, bytes(numbers))


def thing_of(kind, word):
    """Tell the name or the number that a word is, or None."""
    if kind == "number":
        return number_of(word, MANY)
    return word if is_lettered(word) else None


def number_of(word, figures):
    """Tell the number of at most so many figures that a word is, or None."""
    if not 1 <= len(word) <= figures or not all([sign in FIGURES for sign in word]):
        return None
    # A number has no needless 0 ahead.
    if word[0] == "0" and len(word) > 1:
        return None
    return int(word)
