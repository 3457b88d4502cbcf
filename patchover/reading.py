"""Images, read byte by byte as their parts, whether or not these can stand."""

from patchover.coding import byte_at, bytes_at, check_at, code_at, number_at, several_at
from patchover.devices import CELLS, PLACES
from patchover.errors import BadCode, BadImage
from patchover.naming import LETTERS, MOST_LETTERS
from patchover.shops import MOST_DEVICES, MOST_EDITIONS

# With these bytes images begin.
DEVICE = 68
SHOP = 83
# A number of an image takes no more bytes than this.
MOST_IN_LONG = 5
FIRST_LETTER = 97


def read_whole(one_at, some):
    """Read an image by what reads such a one at a place, and tell its parts."""
    try:
        parts, place = one_at(some, 0)
    except BadCode as refusal:
        raise BadImage(refusal.place) from None
    if place < len(some):
        raise BadImage(place)
    return parts


def device_at(some, begin):
    """Read a device: (cells, wear, places' wear, asleep, how many bytes it holds, what is under way, check)."""
    _, place = limited_at(some, begin, DEVICE, DEVICE)
    cells, place = bytes_at(some, place, CELLS)
    wear, place = several_at(long_at, some, place, CELLS)
    places_worn, place = several_at(long_at, some, place, PLACES)
    state, place = limited_at(some, place, 0, 3)
    asleep = state >= 2
    many, work = 0, None
    if state & 1:
        work, place = work_at(some, place, asleep)
    else:
        many, place = long_at(some, place)
    return (cells, wear, places_worn, asleep, many, work, place), check_at(some, begin, place)


def work_at(some, place, asleep):
    """Read what is under way: (the old edition, the patch, steps that are done, a mark's writes, both places)."""
    before, place = edition_at(some, place)
    patch, place = code_at(some, place)
    steps_done, place = long_at(some, place)
    part, place = limited_at(some, place, 0, 0 if asleep else 1)
    places, place = several_at(place_at, some, place, PLACES)
    return (before, patch, steps_done, part, places), place


def place_at(some, place):
    """Read what one of both places holds: (whether it's whole, its mark)."""
    whole, place = limited_at(some, place, 0, 1)
    mark, place = long_at(some, place)
    return (whole == 1, mark), place


def shop_at(some, begin):
    """Read a shop: (its editions, its devices, how many bytes it sent, check)."""
    _, place = limited_at(some, begin, SHOP, SHOP)
    many, place = limited_at(some, place, 0, MOST_EDITIONS)
    kept, place = several_at(kept_at, some, place, many)
    many, place = limited_at(some, place, 0, MOST_DEVICES)
    customers, place = several_at(customer_at, some, place, many)
    sent, place = long_at(some, place)
    return (kept, customers, sent, place), check_at(some, begin, place)


def kept_at(some, place):
    """Read an edition: (its name, its bytes, None, None) or (its name, None, its base, its patch)."""
    name, place = name_at(some, place)
    leans, place = limited_at(some, place, 0, 1)
    if leans == 0:
        edition, place = edition_at(some, place)
        return (name, edition, None, None), place
    base, place = name_at(some, place)
    patch, place = code_at(some, place)
    return (name, None, base, patch), place


def customer_at(some, place):
    """Read a device of a house: (its name, whether the first leg is under way, its legs, the device)."""
    name, place = name_at(some, place)
    many = byte_at(some, place)
    begun, place = limited_at(some, place + 1, 0, 1)
    legs, place = several_at(leg_at, some, place, many)
    device, place = device_at(some, place)
    return (name, begun == 1, legs, device), place


def leg_at(some, place):
    """Read (the name to which a patch leads, the patch)."""
    name, place = name_at(some, place)
    patch, place = code_at(some, place)
    return (name, patch), place


def name_at(some, place):
    """Read a name."""
    many, place = limited_at(some, place, 1, MOST_LETTERS)
    numbers, place = several_at(letter_at, some, place, many)
    return "".join([LETTERS[number - FIRST_LETTER] for number in numbers]), place


def letter_at(some, place):
    """Read the number of a letter."""
    return limited_at(some, place, FIRST_LETTER, FIRST_LETTER + len(LETTERS) - 1)


def edition_at(some, place):
    """Read the bytes of an edition, however many."""
    many, place = long_at(some, place)
    return bytes_at(some, place, many)


def long_at(some, place):
    """Read a number as it stands in images."""
    return number_at(some, place, MOST_IN_LONG)


def limited_at(some, place, least, most):
    """Read a byte that is from least to most."""
    byte = byte_at(some, place)
    if not least <= byte <= most:
        raise BadCode(place)
    return byte, place + 1
