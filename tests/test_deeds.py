"""Shop: deeds, do, back, again: [18]."""

import random
import unittest

from patchover.errors import BadDeed, NoDevice, PatchError
from patchover.shops import Shop, again
from tests.pictures import devices_of, shop_picture
from tests.samples import BLOCKS, EDITIONS, TURNED, shop_of_editions

# One of each word, with what it tells.
DEEDS = (
    (("put", "a", b"abcdef"), None), (("put", "b", b"bcdefg"), None), (("lean", "b", "a"), None),
    (("tidy",), 0), (("whole", "b"), None), (("give", "a"), 0), (("send", 0, "b"), 6), (("go", 0, 4), 4),
    (("cut", 0), None), (("wake", 0), 1), (("put", "c", b""), None), (("drop", "c"), None), (("tidy",), 1),
    (("send", 0, "a"), 6), (("go", 0, 0), 0), (("go", 0, 10000), 33),
)

NO_DEEDS = (
    (), ("put",), ("put", "a"), ("put", "a", b"", b""), ("lean", "a"), ("lean", "a", "b", "c"), ("whole",),
    ("whole", "a", "a"), ("drop",), ("drop", "a", "b"), ("tidy", "a"), ("give",), ("give", "a", 0), ("send", 0),
    ("send", 0, "a", "a"), ("go", 0), ("go", 0, 1, 1), ("cut",), ("cut", 0, 0), ("wake",), ("wake", 0, 0),
    ("back",), ("Put", "a", b""), ("", "a"), ("names",), ("edition", "a"), ("holds", 0), ("deeds",),
)


def shop_by(deeds):
    """Tell a shop that did deeds by its methods."""
    shop = Shop()
    for word, *things in deeds:
        getattr(shop, word)(*things)
    return shop


def random_deed(chance):
    """Tell a deed that may be refused."""
    names = [*EDITIONS, "x", "A"]
    word = chance.choice((
        "put", "lean", "lean", "whole", "drop", "tidy", "give", "send", "send", "go", "go", "cut", "wake",
    ))
    things = {
        "put": lambda: (chance.choice(names), chance.choice([*EDITIONS.values(), bytes(201)])),
        "lean": lambda: (chance.choice(names), chance.choice(names)),
        "whole": lambda: (chance.choice(names),),
        "drop": lambda: (chance.choice(names),),
        "tidy": lambda: (),
        "give": lambda: (chance.choice(names),),
        "send": lambda: (chance.randrange(-1, 5), chance.choice(names)),
        "go": lambda: (chance.randrange(-1, 5), chance.choice((-1, 0, 1, 5, 20, 50, 10000, 10001))),
        "cut": lambda: (chance.randrange(-1, 5),),
        "wake": lambda: (chance.randrange(-1, 5),),
    }
    return (word, *things[word]())


class TestDeeds(unittest.TestCase):
    def test_each_word(self):
        by_methods, by_do = Shop(), Shop()
        done = []
        for deed, _ in DEEDS:
            told = getattr(by_methods, deed[0])(*deed[1:])
            self.assertEqual(by_do.do(deed), told, deed)
            done.append(deed)
            self.assertEqual(by_methods.deeds(), done)
            self.assertEqual(by_do.deeds(), done)
            self.assertEqual(shop_picture(by_methods), shop_picture(by_do))
        self.assertTrue(all(type(deed) is tuple for deed in by_methods.deeds()))

    def test_what_do_tells(self):
        shop = Shop()
        for deed, told in DEEDS:
            self.assertEqual(shop.do(deed), told, deed)
        self.assertEqual(shop.sent(), 12)

    def test_what_is_no_deed(self):
        shop = shop_of_editions(EDITIONS)
        ahead, deeds = shop_picture(shop), shop.deeds()
        for none in NO_DEEDS:
            with self.assertRaises(BadDeed) as caught:
                shop.do(none)
            self.assertEqual(caught.exception.number, 0)
        self.assertEqual((shop_picture(shop), shop.deeds()), (ahead, deeds))

    def test_those_that_are_refused_are_not_told(self):
        shop = shop_of_editions(EDITIONS)
        ahead = shop.deeds()
        for deed in (
            ("put", "a", b""), ("put", "A", b""), ("lean", "a", "a"), ("whole", "x"), ("drop", "x"), ("give", "x"),
            ("send", 0, "a"), ("go", 0, 5), ("cut", 0), ("wake", 0),
        ):
            with self.assertRaises(PatchError):
                shop.do(deed)
            self.assertEqual(shop.deeds(), ahead)

    def test_what_is_only_asked_is_no_deed(self):
        shop = shop_of_editions(EDITIONS)
        shop.give("a")
        ahead = shop.deeds()
        shop_picture(shop)
        shop.least_kept()
        self.assertEqual(shop.deeds(), ahead)
        self.assertEqual(Shop().deeds(), [])

    def test_those_that_change_nothing_are_deeds_too(self):
        shop = shop_of_editions({"a": b"abc"})
        shop.give("a")
        for deed in (("tidy",), ("whole", "a"), ("send", 0, "a"), ("go", 0, 0), ("go", 0, 10000)):
            shop.do(deed)
            self.assertEqual(shop.deeds()[-1], deed)


class TestBack(unittest.TestCase):
    def test_all_the_way_and_once_more(self):
        shop = Shop()
        pictures = []
        for deed, _ in DEEDS:
            pictures.append(shop_picture(shop))
            shop.do(deed)
        for number in reversed(range(len(DEEDS))):
            self.assertIs(shop.back(), True)
            self.assertEqual(shop_picture(shop), pictures[number])
            self.assertEqual(shop.deeds(), [deed for deed, _ in DEEDS[:number]])
        self.assertIs(shop.back(), False)
        self.assertIs(shop.back(), False)
        self.assertEqual(shop_picture(shop), shop_picture(Shop()))
        # It goes on as a new one.
        for deed, _ in DEEDS:
            shop.do(deed)
        self.assertEqual(shop_picture(shop), shop_picture(again([deed for deed, _ in DEEDS])))

    def test_it_is_no_deed_itself(self):
        shop = shop_of_editions({"a": b"x", "b": b"y"})
        shop.back()
        self.assertEqual(shop.deeds(), [("put", "a", b"x")])
        shop.put("c", b"z")
        self.assertEqual(shop.deeds(), [("put", "a", b"x"), ("put", "c", b"z")])
        self.assertEqual(shop.names(), ["a", "c"])

    def test_a_device_is_taken_back(self):
        shop = shop_of_editions({"a": b"x", "b": b"y"})
        shop.give("a")
        shop.back()
        with self.assertRaises(NoDevice):
            shop.holds(0)
        self.assertEqual(shop.give("b"), 0)
        self.assertEqual(shop.holds(0), ("b", []))

    def test_writes_and_cuts_are_taken_back(self):
        shop = shop_of_editions({"a": b"abcdef", "b": b"bcdefg"})
        shop.give("a")
        shop.send(0, "b")
        shop.go(0, 4)
        ahead = shop_picture(shop)
        for deeds in ((("go", 0, 3),), (("go", 0, 10000),), (("cut", 0),), (("cut", 0), ("wake", 0), ("go", 0, 9))):
            for deed in deeds:
                shop.do(deed)
            self.assertNotEqual(shop_picture(shop), ahead)
            for _ in deeds:
                shop.back()
            self.assertEqual(shop_picture(shop), ahead)

    def test_at_random(self):
        chance = random.Random(81)
        refused = longest = 0
        for _ in range(12):
            shop = shop_of_editions({"a": EDITIONS["a"], "b": EDITIONS["b"]})
            shop.give("a")
            pictures = []
            for _ in range(80):
                ahead, deeds, deed = shop_picture(shop), shop.deeds(), random_deed(chance)
                try:
                    shop.do(deed)
                except PatchError:
                    self.assertEqual((shop_picture(shop), shop.deeds()), (ahead, deeds))
                    refused += 1
                    continue
                self.assertEqual(shop.deeds(), [*deeds, deed])
                pictures.append(ahead)
                if chance.random() < 0.1:
                    self.assertIs(shop.back(), True)
                    self.assertEqual((shop_picture(shop), shop.deeds()), (pictures.pop(), deeds))
            longest = max(longest, len(pictures))
            self.assertEqual(shop_picture(again(shop.deeds())), shop_picture(shop))
            self.assertEqual(again(shop.deeds()).deeds(), shop.deeds())
            while pictures:
                self.assertIs(shop.back(), True)
                self.assertEqual(shop_picture(shop), pictures.pop())
        self.assertGreater(refused, 100)
        self.assertGreater(longest, 20)


class TestAgain(unittest.TestCase):
    def test_a_shop_that_did_deeds(self):
        deeds = [deed for deed, _ in DEEDS]
        for many in range(len(deeds) + 1):
            shop = again(deeds[:many])
            self.assertIsInstance(shop, Shop)
            self.assertEqual(shop.deeds(), deeds[:many])
            self.assertEqual(shop_picture(shop), shop_picture(shop_by(deeds[:many])))
        self.assertEqual(len(deeds), len(DEEDS))

    def test_deeds_that_are_none(self):
        deeds = [deed for deed, _ in DEEDS]
        for none in NO_DEEDS:
            for number in (0, 1, 7, len(deeds)):
                with self.subTest(none=none, number=number):
                    self.assert_bad([*deeds[:number], none, *deeds[number:]], number)

    def test_deeds_that_are_refused(self):
        deeds = [deed for deed, _ in DEEDS]
        for refused, number in (
            (("put", "a", b""), 1), (("put", "A", b""), 0), (("put", "x", bytes(201)), 0), (("lean", "a", "b"), 1),
            (("lean", "a", "b"), 3), (("whole", "x"), 4), (("drop", "a"), 6), (("give", "x"), 3), (("send", 0, "b"), 5),
            (("send", 0, "x"), 6), (("go", 0, -1), 7), (("go", 1, 0), 7), (("wake", 0), 8), (("cut", 0), 9),
            (("go", 0, 0), 9),
        ):
            with self.subTest(refused=refused):
                self.assert_bad([*deeds[:number], refused, *deeds[number:]], number)
        self.assert_bad([("put", "a", BLOCKS), ("put", "b", TURNED), ("give", "a"), ("send", 0, "b")], 3)

    def test_the_first_one(self):
        self.assert_bad([("put", "a", b""), ("put", "a", b""), ("none",), ("put", "b", b"")], 1)
        self.assert_bad([("put", "a", b""), ("none",), ("put", "a", b"")], 1)

    def assert_bad(self, deeds, number):
        ahead = list(deeds)
        with self.assertRaises(BadDeed) as caught:
            again(deeds)
        self.assertEqual(caught.exception.number, number)
        self.assertEqual(deeds, ahead)

    def test_what_is_handed_in_is_kept_as_a_copy(self):
        deeds = [("put", "a", b"abc"), ("give", "a")]
        shop = again(deeds)
        deeds.clear()
        self.assertEqual(len(shop.deeds()), 2)
        self.assertEqual(devices_of(shop), 1)


if __name__ == "__main__":
    unittest.main()
