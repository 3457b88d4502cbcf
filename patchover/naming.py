"""Names of editions: what each of them may be."""

from patchover.errors import BadName

LETTERS = "abcdefghijklmnopqrstuvwxyz"
MOST_LETTERS = 8


def is_lettered(word):
    """Tell whether a word is one letter or more."""
    return len(word) > 0 and all([letter in LETTERS for letter in word])


def check_name(name):
    """Refuse a name that can't be."""
    if not is_lettered(name) or len(name) > MOST_LETTERS:
        raise BadName(f"{name} is no name")
