"""way, far: [16]."""

import functools
import itertools
import random
import unittest

from patchover.coding import size
from patchover.errors import BadCount, NoName
from patchover.finding import least
from patchover.shops import Shop
from patchover.ways import far, way
from tests.pictures import shop_picture
from tests.samples import EDITIONS, FULL, shop_of_editions

# Of these editions are made that copy from one another: what a new one has twice is brought just once on a way.
BLOCKS = (b"qwertyuiop", b"asdfghjk", b"zxcvbnm", b"1234567890!#")


@functools.cache
def size_between(old, new):
    """Tell how many bytes the code of the least patch has."""
    return size(least(old, new))


def least_size(editions, one, other):
    """Tell how many bytes the code of the least patch from one edition to another has."""
    return size_between(editions[one], editions[other])


def all_ways(editions, one, other):
    """Tell all ways without a name twice, (bytes, how many patches, names), the cheapest ahead."""
    told = []
    names = [name for name in editions if name not in (one, other)]
    for many in range(len(names) + 1):
        for some in itertools.permutations(names, many):
            path = [one, *some, other]
            told.append((sum([least_size(editions, *pair) for pair in itertools.pairwise(path)]), many, path))
    return sorted(told)


def random_editions(chance, many):
    """Tell some editions of few different blocks, some of them alike."""
    return {
        name: b"".join([chance.choice(BLOCKS) for _ in range(chance.randrange(5))]) for name in "abcdef"[:many]
    }


class TestWay(unittest.TestCase):
    def test_to_itself(self):
        shop = shop_of_editions(EDITIONS)
        for name in EDITIONS:
            self.assertEqual(way(shop, name, name), (0, [name]))

    def test_straight(self):
        shop = shop_of_editions({"a": FULL[:50], "b": FULL[10:60]})
        self.assertEqual(way(shop, "a", "b"), (least_size({"a": FULL[:50], "b": FULL[10:60]}, "a", "b"), ["a", "b"]))
        self.assertEqual(way(shop_of_editions(EDITIONS), "a", "e"), (2, ["a", "e"]))

    def test_by_another_one(self):
        # Straight it brings the block twice; by the other one it brings it once, and copies it then.
        editions = {"a": b"", "m": b"qwertyuiop", "z": b"qwertyuiop" * 2}
        self.assertEqual([least_size(editions, *pair) for pair in ("az", "am", "mz")], [23, 13, 6])
        self.assertEqual(way(shop_of_editions(editions), "a", "z"), (19, ["a", "m", "z"]))
        self.assertEqual(way(shop_of_editions({**editions, "m": b"qwertyuiopx"}), "a", "z"), (20, ["a", "m", "z"]))

    def test_of_as_many_bytes_that_of_fewest_patches(self):
        editions = {"a": b"", "m": b"qwerty", "z": b"qwertyqwerty"}
        self.assertEqual([least_size(editions, *pair) for pair in ("az", "am", "mz")], [15, 9, 6])
        self.assertEqual(way(shop_of_editions(editions), "a", "z"), (15, ["a", "z"]))

    def test_of_these_the_first(self):
        editions = {"a": b"", "n": b"qwertyuiop", "m": b"qwertyuiop", "z": b"qwertyuiop" * 2}
        self.assertEqual(way(shop_of_editions(editions), "a", "z"), (19, ["a", "m", "z"]))

    def test_by_all(self):
        chance = random.Random(61)
        longer = alike = 0
        for _ in range(150):
            editions = random_editions(chance, 5)
            shop = shop_of_editions(editions)
            for one, other in itertools.permutations(editions, 2):
                ways = all_ways(editions, one, other)
                many, patches, names = ways[0]
                self.assertEqual(way(shop, one, other), (many, names))
                alike += ways[1][0] == many
                longer += patches > 0
        self.assertGreater(longer, 100)
        self.assertGreater(alike, 10)

    def test_six_by_all(self):
        shop = shop_of_editions(EDITIONS)
        for one, other in itertools.permutations(EDITIONS, 2):
            many, _, names = all_ways(EDITIONS, one, other)[0]
            self.assertEqual(way(shop, one, other), (many, names))

    def test_not_by_what_is_kept(self):
        shop = shop_of_editions(EDITIONS)
        told = way(shop, "a", "b")
        shop.lean("b", "e")
        shop.lean("e", "c")
        shop.drop("e")
        self.assertEqual(way(shop, "a", "b"), told)

    def test_names_that_are_not_there(self):
        shop = shop_of_editions(EDITIONS)
        ahead = shop_picture(shop)
        for one, other in (("x", "a"), ("a", "x"), ("x", "x"), ("x", "y"), ("", "a"), ("a", "A")):
            with self.assertRaises(NoName):
                way(shop, one, other)
        self.assertEqual(shop_picture(shop), ahead)
        self.assertEqual(len(shop.deeds()), 6)

    def test_what_is_told_may_be_changed(self):
        shop = shop_of_editions(EDITIONS)
        told = way(shop, "a", "b")
        self.assertIs(type(told), tuple)
        kept = list(told[1])
        told[1].append("x")
        self.assertEqual(way(shop, "a", "b")[1], kept)


class TestFar(unittest.TestCase):
    def test_by_0_and_by_10000_bytes(self):
        shop = shop_of_editions(EDITIONS)
        for name in EDITIONS:
            self.assertEqual(far(shop, name, 0), [name])
            self.assertEqual(far(shop, name, 1), [name])
            self.assertEqual(far(shop, name, 10000), list("abcdef"))
        self.assertEqual(far(shop_of_editions({"a": b""}), "a", 0), ["a"])

    def test_at_the_edge(self):
        # Each patch has no more bytes, however many they have together.
        editions = {"a": b"", "b": b"qwerty", "c": b"qwertyasdfgh", "d": bytes(100)}
        shop = shop_of_editions(editions)
        self.assertEqual([least_size(editions, *pair) for pair in ("ab", "bc", "ac", "ad", "ba")], [9, 11, 15, 5, 2])
        self.assertEqual(far(shop, "a", 2), ["a"])
        self.assertEqual(far(shop, "b", 2), ["a", "b"])
        self.assertEqual(far(shop, "a", 4), ["a"])
        self.assertEqual(far(shop, "a", 5), ["a", "d"])
        self.assertEqual(far(shop, "a", 8), ["a", "d"])
        self.assertEqual(far(shop, "a", 9), ["a", "b", "d"])
        self.assertEqual(far(shop, "a", 10), ["a", "b", "d"])
        self.assertEqual(far(shop, "a", 11), ["a", "b", "c", "d"])

    def test_rising(self):
        shop = shop_of_editions({"z": b"", "m": b"a", "b": b"", "y": b"b" * 50})
        self.assertEqual(far(shop, "z", 3), ["b", "z"])
        self.assertEqual(far(shop, "z", 10000), ["b", "m", "y", "z"])

    def test_by_all(self):
        chance = random.Random(62)
        for _ in range(60):
            editions = random_editions(chance, 5)
            shop = shop_of_editions(editions)
            for name in editions:
                for most in range(1, 12):
                    found = {name}
                    for _ in editions:
                        found |= {
                            other for one in found for other in editions
                            if least_size(editions, one, other) <= most
                        }
                    self.assertEqual(far(shop, name, most), sorted(found))

    def test_refusals_in_turn(self):
        shop = shop_of_editions(EDITIONS)
        for name, most, refusal in (
            ("x", 5, NoName), ("x", -1, NoName), ("", 10001, NoName),
            ("a", -1, BadCount), ("a", 10001, BadCount), ("a", True, BadCount), ("a", False, BadCount),
        ):
            with self.assertRaises(refusal):
                far(shop, name, most)
        with self.assertRaises(NoName):
            far(Shop(), "a", 0)

    def test_what_is_told_may_be_changed(self):
        shop = shop_of_editions(EDITIONS)
        far(shop, "a", 10000).clear()
        self.assertEqual(far(shop, "a", 10000), list("abcdef"))


if __name__ == "__main__":
    unittest.main()
