"""What several tests try out: patches at the edges and beyond, all short ones, and many others."""

import itertools
import random

from patchover.shops import Shop

FULL = bytes(range(200))

# Pieces at the edges of what can be.
EDGES = (
    ("copy", 0, 1), ("copy", 0, 200), ("copy", 199, 1), ("copy", 150, 50),
    ("bring", b"\x00"), ("bring", b"\xff"), ("bring", b"ab" * 100),
    ("run", 0, 1), ("run", 255, 1), ("run", 0, 200), ("run", 255, 200),
)

# One beyond each edge, and what isn't a piece at all.
BEYOND_EDGES = (
    ("copy", -1, 1), ("copy", -1, 3), ("copy", 200, 1), ("copy", 200, 0), ("copy", 0, 0), ("copy", 3, 0),
    ("copy", 3, -1), ("copy", 0, 201), ("copy", 1, 200), ("copy", 199, 2), ("copy", 150, 51),
    ("bring", b""), ("bring", b"x" * 201),
    ("run", -1, 1), ("run", 256, 1), ("run", 7, 0), ("run", 7, -1), ("run", 7, 201),
    ("move", 0, 1), ("move", b"ab"), ("copy", 1), ("copy", 1, 1, 1), ("run", 1), ("bring",), (),
    ("copy", True, 1), ("copy", 0, True), ("run", False, 1), ("run", 7, True),
)

# Few pieces, of which all short patches are tried out; their bytes are numbers that are copied, too.
SMALL = (
    ("copy", 0, 1), ("copy", 1, 2), ("copy", 3, 1), ("bring", b"\x03"), ("bring", b"\x03\x03"),
    ("bring", b"\x03\x02"), ("run", 3, 1), ("run", 3, 2), ("run", 3, 3), ("run", 2, 4),
)

# Good patches behind which a byte is too much, with the first piece by which they are.
TOO_LONG = (
    ((("run", 7, 200), ("run", 7, 1)), 1),
    ((("copy", 0, 200), ("copy", 0, 1), ("run", 7, 0)), 1),
    ((("copy", 0, 150), ("bring", b"x" * 50), ("bring", b"x"), ("copy", 0, 1)), 2),
    (tuple([("bring", b"x")] * 202), 200),
)


def small_patches(most):
    """Tell all patches of at most so many of the small pieces."""
    return [patch for many in range(most + 1) for patch in itertools.product(SMALL, repeat=many)]


def refused_patches():
    """Tell patches that can't be, each with the first piece that shows it."""
    good = (("copy", 0, 1), ("bring", b"ab"), ("run", 7, 3))
    told = [((*good[:at], piece, *good[at:], piece), at) for piece in BEYOND_EDGES for at in range(4)]
    return [*told, *TOO_LONG]


def copying_patches(seed, many, pieces, longest):
    """Tell many patches, always the same by a seed, mostly of copies that read what others write."""
    chance = random.Random(seed)
    return [copying_patch(chance, pieces, longest) for _ in range(many)]


def copying_patch(chance, pieces, longest):
    """Tell a patch of at most so many pieces, each of at most so many bytes."""
    lengths = [chance.randint(1, longest) for _ in range(chance.randint(0, pieces))]
    patch = []
    start = 0
    for length in lengths:
        word = chance.choice(("copy", "copy", "copy", "copy", "copy", "idle", "bring", "run"))
        if word == "bring":
            patch.append(("bring", chance.randbytes(length)))
        elif word == "run":
            patch.append(("run", chance.randrange(256), length))
        elif word == "idle":
            patch.append(("copy", start, length))
        else:
            patch.append(("copy", chance.randrange(sum(lengths)), length))
        start += length
    return tuple(patch)


# Editions of which least patches copy, bring and lead around in rings.
EDITIONS = {
    "a": b"abcdefghijklmnop",
    "b": b"ijklmnopabcdefgh",
    "c": b"abcdefgh!ijklmnop",
    "d": b"abcd" * 3,
    "e": b"",
    "f": b"abcdefghijklmnopq",
}

# Two editions of 15 blocks, which change places around through all of them.
TURN = (1, 14, 6, 5, 0, 10, 7, 13, 12, 8, 2, 9, 4, 11, 3)
BLOCKS = bytes(range(120))
TURNED = b"".join([BLOCKS[8 * block:8 * block + 8] for block in TURN])


def shop_of_editions(editions):
    """Tell a shop that has these editions, all whole."""
    shop = Shop()
    for name, edition in editions.items():
        shop.put(name, edition)
    return shop
