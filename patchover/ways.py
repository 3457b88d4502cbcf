"""Ways from one edition of a shop to another, by least patches one behind the other."""

from itertools import permutations

from patchover.coding import size
from patchover.errors import BadCount
from patchover.pieces import is_number

MOST_BYTES = 10000


def way(shop, one, other):
    """Tell (bytes, names) of the cheapest way; of several that of fewest patches, of these the first."""
    shop.edition(one)
    shop.edition(other)
    if one == other:
        return 0, [one]
    between = [name for name in shop.names() if name not in (one, other)]
    sizes = sizes_of(shop)
    many, _, names = min([
        way_by([one, *some, other], sizes)
        for number in range(len(between) + 1) for some in permutations(between, number)
    ])
    return many, names


def far(shop, name, most):
    """Tell all names that come to be by patches each of which has no more bytes."""
    shop.edition(name)
    if not is_number(most, 0, MOST_BYTES):
        raise BadCount(f"{most} is no number of bytes")
    sizes = sizes_of(shop)
    found = [name]
    # What is found behind it is gone over, too.
    at = 0
    while at < len(found):
        for other in shop.names():
            if other not in found and sizes[found[at], other] <= most:
                found.append(other)
        at += 1
    return sorted(found)


def sizes_of(shop):
    """Tell for each two names of a shop how many bytes the code of the least patch between them has."""
    names = shop.names()
    return {
        (one, other): size(shop.patch_between(one, other)) for one in names for other in names if one != other
    }


def way_by(names, sizes):
    """Tell (bytes, patches, names) of a way."""
    many = sum([sizes[pair] for pair in zip(names, names[1:])])
    return many, len(names) - 1, names
