"""Shop: put, lean, whole, drop, names, edition, base_of, patch_of, chain_of, cost, least_kept, tidy: [14], [15]."""

import copy
import itertools
import random
import unittest

from patchover.coding import size
from patchover.errors import Around, BadEdition, BadName, InUse, Known, NoName, PatchError, TooMany
from patchover.finding import least
from patchover.patches import done, joined
from patchover.shops import Shop
from tests.pictures import shop_picture
from tests.samples import EDITIONS, FULL, shop_of_editions

SIX = ("a", "b", "c", "d", "e", "f")


class ShopTest(unittest.TestCase):
    def assert_refused(self, shop, refusal, word, *things):
        """See that a deed is refused so, and that all stands as ahead."""
        ahead, deeds = shop_picture(shop), shop.deeds()
        with self.assertRaises(refusal) as caught:
            shop.do((word, *things))
        self.assertIs(type(caught.exception), refusal)
        self.assertEqual(shop_picture(shop), ahead)
        self.assertEqual(shop.deeds(), deeds)


class TestPut(ShopTest):
    def test_editions_are_kept_whole(self):
        shop = Shop()
        self.assertEqual((shop.names(), shop.cost()), ([], 0))
        for name, edition in (("zz", b"abc"), ("a", b""), ("abcdefgh", FULL)):
            self.assertIsNone(shop.put(name, edition))
            self.assertEqual(shop.edition(name), edition)
            self.assertIsNone(shop.base_of(name))
            self.assertIsNone(shop.patch_of(name))
            self.assertEqual(shop.chain_of(name), [name])
        self.assertEqual(shop.names(), ["a", "abcdefgh", "zz"])
        self.assertEqual(shop.cost(), 4 + 1 + 201)

    def test_names_that_cannot_be(self):
        shop = Shop()
        for name in ("", "abcdefghi", "A", "aB", "a1", "a b", " a", "a-", "a_b", "a\n", "`", "{", "aaaaaaaaaaaaaaaaa"):
            self.assert_refused(shop, BadName, "put", name, b"abc")
        for name in ("a", "z", "abcdefgh", "zzzzzzzz"):
            shop.put(name, b"")

    def test_a_seventh_edition(self):
        shop = shop_of_editions(EDITIONS)
        self.assert_refused(shop, TooMany, "put", "g", b"")
        shop.drop("c")
        shop.put("g", b"")
        self.assertEqual(shop.names(), ["a", "b", "d", "e", "f", "g"])
        self.assert_refused(shop, TooMany, "put", "c", b"")

    def test_refusals_in_turn(self):
        shop = shop_of_editions(EDITIONS)
        big = bytes(201)
        self.assert_refused(shop, BadName, "put", "A", big)
        self.assert_refused(shop, Known, "put", "a", big)
        self.assert_refused(shop, Known, "put", "a", EDITIONS["a"])
        self.assert_refused(shop, TooMany, "put", "g", big)
        shop.drop("f")
        self.assert_refused(shop, BadEdition, "put", "g", big)
        self.assert_refused(shop, BadName, "put", "", big)
        shop.put("g", bytes(200))


class TestLean(ShopTest):
    def test_by_the_least_patch(self):
        shop = shop_of_editions(EDITIONS)
        self.assertIsNone(shop.lean("b", "a"))
        self.assertEqual(shop.base_of("b"), "a")
        self.assertEqual(shop.patch_of("b"), least(EDITIONS["a"], EDITIONS["b"]))
        self.assertEqual(shop.chain_of("b"), ["a", "b"])
        self.assertEqual(shop.edition("b"), EDITIONS["b"])
        self.assertEqual(shop.cost(), 17 + size(shop.patch_of("b")) + 18 + 13 + 1 + 18)

    def test_a_chain(self):
        shop = shop_of_editions(EDITIONS)
        for name, base in itertools.pairwise(SIX):
            shop.lean(name, base)
        self.assertEqual(shop.chain_of("a"), ["f", "e", "d", "c", "b", "a"])
        self.assertEqual(shop.chain_of("d"), ["f", "e", "d"])
        self.assertEqual(shop.chain_of("f"), ["f"])
        self.assertEqual(shop.names(), list(SIX))
        self.assertEqual(shop.cost(), 18 + sum([
            size(least(EDITIONS[base], EDITIONS[name])) for name, base in itertools.pairwise(SIX)
        ]))

    def test_another_base(self):
        shop = shop_of_editions(EDITIONS)
        shop.lean("b", "a")
        shop.lean("b", "c")
        self.assertEqual(shop.chain_of("b"), ["c", "b"])
        self.assertEqual(shop.patch_of("b"), least(EDITIONS["c"], EDITIONS["b"]))
        shop.lean("b", "c")
        self.assertEqual(shop.chain_of("b"), ["c", "b"])
        shop.lean("c", "a")
        self.assertEqual(shop.chain_of("b"), ["a", "c", "b"])
        # It leans on c already, but now straight on a.
        shop.lean("b", "a")
        self.assertEqual(shop.chain_of("b"), ["a", "b"])

    def test_around(self):
        shop = shop_of_editions(EDITIONS)
        self.assert_refused(shop, Around, "lean", "a", "a")
        shop.lean("b", "a")
        self.assert_refused(shop, Around, "lean", "a", "b")
        self.assert_refused(shop, Around, "lean", "b", "b")
        shop.lean("c", "b")
        self.assert_refused(shop, Around, "lean", "a", "c")
        shop.lean("d", "c")
        for base in "abcd":
            self.assert_refused(shop, Around, "lean", "a", base)
        self.assert_refused(shop, Around, "lean", "b", "d")
        shop.lean("a", "e")
        shop.whole("b")
        shop.lean("a", "d")
        self.assertEqual(shop.chain_of("a"), ["b", "c", "d", "a"])

    def test_names_that_are_not_there(self):
        shop = shop_of_editions(EDITIONS)
        for one, other in (("x", "a"), ("a", "x"), ("x", "x"), ("x", "y"), ("", "a"), ("a", "A")):
            self.assert_refused(shop, NoName, "lean", one, other)
        self.assert_refused(Shop(), NoName, "lean", "a", "a")


class TestWhole(ShopTest):
    def test_whole_again(self):
        shop = shop_of_editions(EDITIONS)
        cost = shop.cost()
        shop.lean("b", "a")
        shop.lean("c", "b")
        self.assertIsNone(shop.whole("b"))
        self.assertEqual(shop.chain_of("c"), ["b", "c"])
        self.assertIsNone(shop.base_of("b"))
        self.assertIsNone(shop.patch_of("b"))
        self.assertEqual(shop.patch_of("c"), least(EDITIONS["b"], EDITIONS["c"]))
        shop.whole("c")
        shop.whole("c")
        self.assertEqual(shop.cost(), cost)

    def test_a_name_that_is_not_there(self):
        self.assert_refused(shop_of_editions(EDITIONS), NoName, "whole", "x")


class TestDrop(ShopTest):
    def test_others_that_lean_on_a_whole_one_are_whole(self):
        shop = shop_of_editions(EDITIONS)
        for name, base in (("b", "a"), ("c", "a"), ("d", "b"), ("f", "e")):
            shop.lean(name, base)
        self.assertIsNone(shop.drop("a"))
        self.assertEqual(shop.names(), ["b", "c", "d", "e", "f"])
        self.assertEqual([shop.base_of(name) for name in "bcdef"], [None, None, "b", None, "e"])
        self.assertEqual([shop.edition(name) for name in "bcdef"], [EDITIONS[name] for name in "bcdef"])

    def test_others_that_lean_on_one_that_leans(self):
        shop = shop_of_editions(EDITIONS)
        for name, base in (("b", "a"), ("c", "b"), ("d", "b"), ("f", "c")):
            shop.lean(name, base)
        ahead = [shop.patch_of("b"), shop.patch_of("c"), shop.patch_of("d"), shop.patch_of("f")]
        shop.drop("b")
        self.assertEqual([shop.base_of(name) for name in "acdef"], [None, "a", "a", None, "c"])
        self.assertEqual(shop.patch_of("c"), joined([ahead[0], ahead[1]]))
        self.assertEqual(shop.patch_of("d"), joined([ahead[0], ahead[2]]))
        self.assertEqual(shop.patch_of("f"), ahead[3])
        shop.drop("c")
        self.assertEqual(shop.patch_of("f"), joined([joined([ahead[0], ahead[1]]), ahead[3]]))
        self.assertEqual(shop.chain_of("f"), ["a", "f"])

    def test_the_joined_patch_is_kept_though_it_is_not_the_least(self):
        shop = Shop()
        shop.put("a", b"abcdefgh")
        shop.put("b", b"")
        shop.put("c", b"abcdefgh")
        shop.lean("b", "a")
        shop.lean("c", "b")
        shop.drop("b")
        self.assertEqual(shop.patch_of("c"), (("bring", b"abcdefgh"),))
        self.assertEqual(shop.cost(), 9 + 11)
        self.assertEqual(shop.tidy(), 20 - (9 + 4))
        self.assertIn((shop.patch_of("a"), shop.patch_of("c")), [
            (None, (("copy", 0, 8),)), ((("copy", 0, 8),), None),
        ])

    def test_one_on_which_nothing_leans(self):
        shop = shop_of_editions(EDITIONS)
        shop.lean("b", "a")
        shop.drop("b")
        self.assertEqual(shop.names(), ["a", "c", "d", "e", "f"])
        shop.put("b", b"else")
        self.assertEqual((shop.edition("b"), shop.base_of("b")), (b"else", None))

    def test_patches_make_their_editions_still(self):
        chance = random.Random(51)
        for _ in range(40):
            shop = shop_of_editions(EDITIONS)
            for _ in range(12):
                try:
                    shop.lean(chance.choice(SIX), chance.choice(SIX))
                except Around:
                    pass
            for name in chance.sample(SIX, 5):
                shop.drop(name)
                for other in shop.names():
                    self.assertEqual(shop.edition(other), EDITIONS[other])
                    if shop.base_of(other) is not None:
                        base = EDITIONS[shop.base_of(other)]
                        self.assertEqual(done(shop.patch_of(other), base), EDITIONS[other])

    def test_one_that_a_device_holds_or_is_to_come_to(self):
        shop = shop_of_editions(EDITIONS)
        shop.give("a")
        self.assert_refused(shop, InUse, "drop", "a")
        shop.send(0, "b")
        names = shop.holds(0)[1]
        for name in ("a", *names):
            self.assert_refused(shop, InUse, "drop", name)
        shop.go(0, 1)
        for name in ("a", *names):
            self.assert_refused(shop, InUse, "drop", name)
        shop.lean("a", "c")
        self.assert_refused(shop, InUse, "drop", "a")
        shop.go(0, 10000)
        self.assert_refused(shop, InUse, "drop", "b")
        shop.drop("a")
        shop.give("c")
        self.assert_refused(shop, InUse, "drop", "c")
        self.assert_refused(shop, InUse, "drop", "b")

    def test_one_in_between(self):
        # From one to the other the way leads by a third one, which is in use, too.
        shop = shop_of_editions({"a": b"", "m": b"qwertyuiop", "z": b"qwertyuiop" * 2})
        shop.give("a")
        shop.send(0, "z")
        self.assertEqual(shop.holds(0), ("a", ["m", "z"]))
        for name in "amz":
            self.assert_refused(shop, InUse, "drop", name)
        shop.go(0, 12)
        self.assertEqual(shop.holds(0), ("m", ["z"]))
        for name in "mz":
            self.assert_refused(shop, InUse, "drop", name)
        shop.drop("a")
        shop.go(0, 10000)
        shop.drop("m")
        self.assert_refused(shop, InUse, "drop", "z")

    def test_a_name_that_is_not_there(self):
        shop = shop_of_editions(EDITIONS)
        self.assert_refused(shop, NoName, "drop", "x")
        shop.drop("a")
        self.assert_refused(shop, NoName, "drop", "a")


class TestTold(ShopTest):
    def test_names_that_are_not_there(self):
        shop = shop_of_editions(EDITIONS)
        for name in ("x", "", "ab", "A"):
            for told in (shop.edition, shop.base_of, shop.patch_of, shop.chain_of):
                with self.assertRaises(NoName):
                    told(name)

    def test_what_is_told_may_be_changed(self):
        shop = shop_of_editions(EDITIONS)
        shop.lean("b", "a")
        shop.give("b")
        ahead = copy.deepcopy(shop_picture(shop))
        shop.names().clear()
        shop.chain_of("b").append("c")
        shop.least_kept()[1].clear()
        shop.deeds().clear()
        shop.holds(0)[1].append("a")
        shop.wear(0)[0] = 9
        self.assertEqual(shop_picture(shop), ahead)
        self.assertEqual(len(shop.deeds()), 8)
        self.assertEqual(sorted(shop.least_kept()[1]), list(SIX))


def all_bases(names):
    """Tell all ways to keep some editions, each whole or by another one, but none around."""
    told = []
    for bases in itertools.product([None, *names], repeat=len(names)):
        table = dict(zip(names, bases))
        if all([None in chain_by(table, name) for name in names]):
            told.append(table)
    return told


def chain_by(table, name):
    """Tell a name and those on which it leans, as many as there are names."""
    chain = [name]
    for _ in table:
        chain.append(table.get(chain[-1]))
    return chain


def cost_by(editions, table):
    """Tell what it costs to keep editions so."""
    return sum([
        len(editions[name]) + 1 if base is None else size(least(editions[base], editions[name]))
        for name, base in table.items()
    ])


class TestLeastKept(ShopTest):
    def assert_least(self, editions):
        shop = shop_of_editions(editions)
        costs = [cost_by(editions, table) for table in all_bases(list(editions))]
        cost, bases = shop.least_kept()
        self.assertEqual(cost, min(costs))
        self.assertEqual(sorted(bases), sorted(editions))
        self.assertIn(bases, all_bases(list(editions)))
        self.assertEqual(cost_by(editions, bases), cost)
        ahead = shop.cost()
        self.assertEqual(shop.tidy(), ahead - cost)
        self.assertEqual(shop.cost(), cost)
        self.assertEqual(shop.tidy(), 0)

    def test_of_nothing_and_of_one(self):
        self.assertEqual(Shop().least_kept(), (0, {}))
        self.assertEqual(Shop().tidy(), 0)
        shop = shop_of_editions({"a": FULL})
        self.assertEqual(shop.least_kept(), (201, {"a": None}))
        self.assertEqual(shop.tidy(), 0)

    def test_told(self):
        self.assertEqual(shop_of_editions({"a": b"abcdefgh", "b": b"abcdefghi"}).least_kept(), (10 + 4, {
            "a": "b", "b": None,
        }))
        # The empty one costs less whole than by a patch.
        self.assertEqual(shop_of_editions({"a": FULL, "e": b""}).least_kept(), (202, {"a": None, "e": None}))

    def test_each_that_would_rather_lean_on_another_one(self):
        # Around would be the cheapest, but one of them must be whole.
        some = {"a": FULL[:100] + b"xy", "b": FULL[:100] + b"yz", "c": FULL[:100] + b"zx"}
        cost, bases = shop_of_editions(some).least_kept()
        self.assertEqual(cost, 103 + 8 + 8)
        self.assertEqual(list(bases.values()).count(None), 1)
        self.assert_least(some)

    def test_by_all(self):
        chance = random.Random(52)
        for many in (2, 3, 4, 4, 4):
            for _ in range(6):
                self.assert_least({
                    name: bytes([chance.choice(b"ab") for _ in range(chance.randrange(14))]) for name in SIX[:many]
                })
        self.assert_least({name: EDITIONS[name] for name in "abdf"})

    def test_six(self):
        shop = shop_of_editions(EDITIONS)
        cost, bases = shop.least_kept()
        self.assertEqual(cost_by(EDITIONS, bases), cost)
        costs = [cost_by(EDITIONS, dict(zip(SIX, bases))) for bases in (
            [None] * 6, ["f", "a", "a", None, None, None], ["f", "a", "b", None, None, None],
            [None, "a", "a", "a", None, "a"], [None, "a", "b", None, None, "a"], ["f", "f", "f", "f", None, None],
        )]
        self.assertLessEqual(cost, min(costs))

    def test_not_by_what_is_kept_now(self):
        shop = shop_of_editions(EDITIONS)
        told = shop.least_kept()[0]
        for name, base in itertools.pairwise(SIX):
            shop.lean(name, base)
        self.assertEqual(shop.least_kept()[0], told)


class TestTidy(ShopTest):
    def test_where_nothing_is_less(self):
        # Each of both may lean on the other one for as much; as it is now, it stays.
        for name, base in (("a", "b"), ("b", "a")):
            shop = shop_of_editions({"a": b"abcdefgh", "b": b"efghabcd"})
            self.assertGreater(shop.cost(), shop.least_kept()[0])
            shop.lean(name, base)
            self.assertEqual(shop.cost(), shop.least_kept()[0])
            self.assertEqual(shop.tidy(), 0)
            self.assertEqual((shop.base_of(name), shop.base_of(base)), (base, None))
            self.assertEqual(shop.deeds()[-1], ("tidy",))

    def test_it_tells_by_how_much_less(self):
        shop = shop_of_editions(EDITIONS)
        ahead, (cost, _) = shop.cost(), shop.least_kept()
        self.assertEqual(shop.tidy(), ahead - cost)
        self.assertEqual(shop.cost(), cost)
        for name in shop.names():
            self.assertEqual(shop.edition(name), EDITIONS[name])
            if shop.base_of(name) is not None:
                self.assertEqual(shop.patch_of(name), least(EDITIONS[shop.base_of(name)], EDITIONS[name]))

    def test_at_random(self):
        chance = random.Random(53)
        for _ in range(25):
            shop = shop_of_editions(EDITIONS)
            for _ in range(10):
                try:
                    shop.do(chance.choice((
                        ("lean", chance.choice(SIX), chance.choice(SIX)), ("whole", chance.choice(SIX)),
                        ("drop", chance.choice(SIX)),
                    )))
                except PatchError:
                    pass
            ahead, (cost, _) = shop.cost(), shop.least_kept()
            self.assertLessEqual(cost, ahead)
            self.assertEqual(shop.tidy(), ahead - cost)
            self.assertEqual(shop.cost(), cost)
            self.assertEqual(shop.least_kept()[0], cost)


if __name__ == "__main__":
    unittest.main()
