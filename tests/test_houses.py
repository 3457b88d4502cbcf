"""Shop: give, send, go, cut, wake, holds, bytes_of, wear, stands, sent: [17]."""

import copy
import random
import unittest

from patchover.carrying import lightest
from patchover.coding import size
from patchover.devices import Device
from patchover.errors import Asleep, Awake, BadCount, NoDevice, NoName, TooMany
from patchover.finding import least
from patchover.shops import Shop
from patchover.ways import way
from tests.pictures import shop_picture
from tests.samples import BLOCKS, EDITIONS, TURNED, shop_of_editions
from tests.test_shops import ShopTest

# From one to the next one by three writes each, the second mark's or the third one's included.
STEPS = {"a": b"x", "b": b"y", "c": b"z"}
# From long to short there are no writes, and from e to z the way leads by m.
SHRUNK = {"a": b"qwertyuiopq", "m": b"qwertyuiop", "e": b"", "q": b"qwert", "z": b"qwertyuiop" * 2}


class House:
    """What a device of a house must do, write by write."""

    def __init__(self, edition, name):
        self.device = Device(edition)
        self.name = name
        self.waiting = []
        self.leads = None

    def begin_waiting(self):
        while self.device.edition() is not None and (self.leads is not None or self.waiting):
            if self.leads is not None:
                self.name, self.leads = self.leads, None
            elif self.waiting:
                self.leads, patch = self.waiting.pop(0)
                self.device.begin(patch)

    def go(self, many):
        self.device.go(0)
        writes = 0
        self.begin_waiting()
        while writes < many and self.device.go(1):
            writes += 1
            self.begin_waiting()
        return writes

    def holds(self):
        ahead = [] if self.leads is None else [self.leads]
        return self.name, ahead + [name for name, _ in self.waiting]


class TestGive(ShopTest):
    def test_numbers_from_0_on(self):
        shop = shop_of_editions(EDITIONS)
        self.assertEqual([shop.give(name) for name in "abab"], [0, 1, 2, 3])
        for number, name in enumerate("abab"):
            self.assertEqual(shop.holds(number), (name, []))
            self.assertEqual(shop.bytes_of(number), EDITIONS[name])
            self.assertEqual(shop.stands(number), ("rests",))
            self.assertEqual(shop.wear(number), [0] * 200)
        self.assertEqual(shop.sent(), 0)

    def test_refusals_in_turn(self):
        shop = shop_of_editions(EDITIONS)
        self.assert_refused(shop, NoName, "give", "x")
        for name in "aaee":
            shop.give(name)
        self.assert_refused(shop, TooMany, "give", "a")
        self.assert_refused(shop, NoName, "give", "x")


class TestSend(ShopTest):
    def test_what_is_sent(self):
        shop = shop_of_editions(EDITIONS)
        shop.give("a")
        many, names = way(shop, "a", "b")
        self.assertEqual(shop.send(0, "b"), many)
        self.assertEqual(shop.sent(), many)
        # It waits, nothing is begun.
        self.assertEqual(shop.holds(0), ("a", names[1:]))
        self.assertEqual(shop.stands(0), ("rests",))
        self.assertEqual(shop.bytes_of(0), EDITIONS["a"])

    def test_from_the_one_that_it_will_have(self):
        shop = shop_of_editions(EDITIONS)
        shop.give("a")
        told = [shop.send(0, name) for name in "bca"]
        self.assertEqual(told, [way(shop, *pair)[0] for pair in ("ab", "bc", "ca")])
        self.assertEqual(shop.sent(), sum(told))
        self.assertEqual(shop.holds(0)[1], [*way(shop, "a", "b")[1], *way(shop, "b", "c")[1][1:], "a"][1:])
        shop.go(0, 1)
        self.assertEqual(shop.send(0, "b"), way(shop, "a", "b")[0])
        shop.go(0, 10000)
        self.assertEqual((shop.holds(0), shop.bytes_of(0)), (("b", []), EDITIONS["b"]))

    def test_to_the_one_that_it_will_have(self):
        shop = shop_of_editions(EDITIONS)
        shop.give("a")
        self.assertEqual(shop.send(0, "a"), 0)
        self.assertEqual((shop.holds(0), shop.sent()), (("a", []), 0))
        shop.send(0, "b")
        ahead = shop.holds(0)
        self.assertEqual(shop.send(0, "b"), 0)
        self.assertEqual(shop.holds(0), ahead)

    def test_by_another_one(self):
        shop = shop_of_editions(SHRUNK)
        shop.give("e")
        self.assertEqual(shop.send(0, "z"), 19)
        self.assertEqual(shop.holds(0), ("e", ["m", "z"]))
        self.assertEqual(shop.go(0, 10000), 24)
        self.assertEqual(shop.bytes_of(0), SHRUNK["z"])

    def test_while_under_way_and_asleep(self):
        shop = shop_of_editions(STEPS)
        shop.give("a")
        shop.send(0, "b")
        shop.go(0, 2)
        shop.send(0, "c")
        self.assertEqual(shop.holds(0), ("a", ["b", "c"]))
        shop.cut(0)
        shop.send(0, "a")
        self.assertEqual(shop.holds(0), ("a", ["b", "c", "a"]))
        self.assertEqual(shop.stands(0), ("asleep", 0))
        shop.wake(0)
        self.assertEqual(shop.go(0, 10000), 9)

    def test_the_patches_wait_as_they_were_sent(self):
        shop = shop_of_editions({"e": b"", "z": b"qwertyuiop" * 2})
        shop.give("e")
        self.assertEqual(shop.send(0, "z"), 23)
        # By now there is a cheaper way, and another base.
        shop.put("m", b"qwertyuiop")
        shop.lean("z", "m")
        self.assertEqual(shop.holds(0), ("e", ["z"]))
        self.assertEqual(shop.go(0, 10000), 22)
        self.assertEqual((shop.sent(), shop.bytes_of(0)), (23, b"qwertyuiop" * 2))

    def test_one_that_cannot_be_done(self):
        self.assertRaises(TooMany, lightest, least(BLOCKS, TURNED))
        shop = shop_of_editions({"a": BLOCKS, "b": TURNED, "c": BLOCKS + b"!"})
        shop.give("a")
        shop.give("c")
        self.assert_refused(shop, TooMany, "send", 0, "b")
        self.assertEqual(shop.send(0, "c"), size(least(BLOCKS, BLOCKS + b"!")))
        self.assert_refused(shop, TooMany, "send", 0, "b")
        self.assert_refused(shop, TooMany, "send", 1, "b")

    def test_the_second_one_cannot_be_done(self):
        # The patch that comes ahead of it isn't sent either.
        shop = shop_of_editions({"e": b"", "m": BLOCKS, "z": TURNED + BLOCKS[:80]})
        shop.give("e")
        self.assertEqual(way(shop, "e", "z")[1], ["e", "m", "z"])
        self.assert_refused(shop, TooMany, "send", 0, "z")
        self.assertEqual((shop.holds(0), shop.sent()), (("e", []), 0))

    def test_refusals_in_turn(self):
        shop = shop_of_editions({"a": BLOCKS, "b": TURNED})
        for number in (0, 1, -1, True, False):
            self.assert_refused(shop, NoDevice, "send", number, "x")
        shop.give("a")
        for number in (1, -1, 4, True, False):
            self.assert_refused(shop, NoDevice, "send", number, "x")
            self.assert_refused(shop, NoDevice, "send", number, "b")
        self.assert_refused(shop, NoName, "send", 0, "x")
        self.assert_refused(shop, TooMany, "send", 0, "b")


class TestGo(ShopTest):
    def test_patches_that_wait_are_begun(self):
        shop = shop_of_editions(STEPS)
        shop.give("a")
        shop.send(0, "b")
        shop.send(0, "c")
        told = []
        for many in (1, 1, 1, 2, 0, 5, 0):
            told.append((shop.go(0, many), shop.stands(0), shop.holds(0), shop.bytes_of(0)))
        self.assertEqual(told, [
            (1, ("goes", 1, 0), ("a", ["b", "c"]), None),
            (1, ("goes", 1, 1), ("a", ["b", "c"]), None),
            # Behind the last write of the first patch the second one is begun.
            (1, ("goes", 0, 0), ("b", ["c"]), None),
            (2, ("goes", 1, 1), ("b", ["c"]), None),
            (0, ("goes", 1, 1), ("b", ["c"]), None),
            (1, ("rests",), ("c", []), b"z"),
            (0, ("rests",), ("c", []), b"z"),
        ])

    def test_begun_for_0_writes(self):
        shop = shop_of_editions(STEPS)
        shop.give("a")
        self.assertEqual(shop.go(0, 0), 0)
        shop.send(0, "b")
        self.assertEqual(shop.stands(0), ("rests",))
        self.assertEqual(shop.go(0, 0), 0)
        self.assertEqual((shop.stands(0), shop.holds(0), shop.bytes_of(0)), (("goes", 0, 0), ("a", ["b"]), None))

    def test_several_patches_in_one_go(self):
        shop = shop_of_editions(STEPS)
        shop.give("a")
        for name in "bcab":
            shop.send(0, name)
        self.assertEqual(shop.go(0, 8), 8)
        self.assertEqual((shop.stands(0), shop.holds(0)), (("goes", 1, 1), ("c", ["a", "b"])))
        self.assertEqual(shop.go(0, 10000), 4)
        self.assertEqual(shop.wear(0), [4] + [0] * 199)
        self.assertEqual(shop.bytes_of(0), b"y")

    def test_patches_without_writes(self):
        shop = shop_of_editions(SHRUNK)
        shop.give("a")
        for name in ("m", "q", "e"):
            shop.send(0, name)
        self.assertEqual(shop.holds(0), ("a", ["m", "q", "e"]))
        self.assertEqual(shop.go(0, 0), 0)
        self.assertEqual((shop.holds(0), shop.bytes_of(0), shop.stands(0)), (("e", []), b"", ("rests",)))
        # The last of several is begun only, for it has writes.
        for name in ("q", "e", "m"):
            shop.send(0, name)
        shop.go(0, 0)
        self.assertEqual((shop.holds(0), shop.stands(0)), (("e", ["q", "e", "m"]), ("goes", 0, 0)))
        # Behind its last write those without writes are done, and the next one is begun.
        self.assertEqual(shop.go(0, 7), 7)
        self.assertEqual((shop.holds(0), shop.stands(0)), (("e", ["m"]), ("goes", 0, 0)))
        self.assertEqual(shop.go(0, 12), 12)
        self.assertEqual((shop.holds(0), shop.stands(0)), (("m", []), ("rests",)))

    def test_behind_the_last_write_one_without_writes_is_done(self):
        shop = shop_of_editions(SHRUNK)
        shop.give("e")
        shop.send(0, "m")
        shop.send(0, "q")
        self.assertEqual(shop.go(0, 12), 12)
        self.assertEqual((shop.holds(0), shop.bytes_of(0)), (("q", []), b"qwert"))

    def test_write_by_write(self):
        chance = random.Random(71)
        for editions in (EDITIONS, STEPS, SHRUNK):
            for _ in range(12):
                self.trial(editions, chance)

    def trial(self, editions, chance):
        """Lead a device by a shop, and write by write, and compare all that is told."""
        shop = shop_of_editions(editions)
        name = chance.choice(list(editions))
        shop.give(name)
        house = House(editions[name], name)
        for _ in range(30):
            word = chance.choice(("send", "go", "go", "cut"))
            if word == "send":
                name = chance.choice(list(editions))
                names = way(shop, house.name if not house.holds()[1] else house.holds()[1][-1], name)[1]
                for pair in zip(names, names[1:]):
                    house.waiting.append((pair[1], least(editions[pair[0]], editions[pair[1]])))
                shop.send(0, name)
            elif word == "go":
                many = chance.randrange(30)
                self.assertEqual(shop.go(0, many), house.go(many))
            else:
                shop.cut(0)
                house.device.cut()
                self.assertEqual(shop.stands(0), house.device.stands())
                self.assertEqual(shop.wake(0), house.device.wake())
            self.assertEqual(shop.holds(0), house.holds())
            self.assertEqual(shop.bytes_of(0), house.device.edition())
            self.assertEqual(shop.wear(0), house.device.wear())
            self.assertEqual(shop.stands(0), house.device.stands())

    def test_refusals_in_turn(self):
        shop = shop_of_editions(STEPS)
        for number in (0, -1, True, False):
            self.assert_refused(shop, NoDevice, "go", number, -1)
        shop.give("a")
        shop.send(0, "b")
        for number in (1, -1, 10000, True, False):
            self.assert_refused(shop, NoDevice, "go", number, -1)
        for many in (-1, 10001, True, False):
            self.assert_refused(shop, BadCount, "go", 0, many)
        shop.cut(0)
        for many in (-1, 10001):
            self.assert_refused(shop, BadCount, "go", 0, many)
        for many in (0, 1, 10000):
            self.assert_refused(shop, Asleep, "go", 0, many)
        shop.wake(0)
        self.assertEqual(shop.go(0, 10000), 3)


class TestCutAndWake(ShopTest):
    def test_as_a_device(self):
        shop = shop_of_editions(STEPS)
        shop.give("a")
        shop.give("a")
        self.assertIsNone(shop.cut(0))
        self.assertEqual((shop.stands(0), shop.stands(1)), (("asleep", 0), ("rests",)))
        self.assertEqual(shop.wake(0), 0)
        shop.send(0, "b")
        shop.go(0, 2)
        shop.cut(0)
        self.assertEqual(shop.holds(0), ("a", ["b"]))
        self.assertEqual(shop.wake(0), 0)
        self.assertEqual(shop.go(0, 10000), 3)
        self.assertEqual(shop.wear(0)[:2], [2, 0])

    def test_it_wakes_to_a_mark(self):
        shop = shop_of_editions({"a": b"abcdef", "b": b"bcdefg"})
        shop.give("a")
        shop.send(0, "b")
        shop.go(0, 4)
        shop.cut(0)
        self.assertEqual(shop.stands(0), ("asleep", 1))
        self.assertEqual(shop.wake(0), 1)

    def test_what_waits_is_begun_by_go_alone(self):
        shop = shop_of_editions(STEPS)
        shop.give("a")
        shop.send(0, "b")
        shop.cut(0)
        self.assertEqual(shop.wake(0), 0)
        self.assertEqual((shop.stands(0), shop.holds(0)), (("rests",), ("a", ["b"])))

    def test_refusals_in_turn(self):
        shop = shop_of_editions(STEPS)
        for word in ("cut", "wake"):
            for number in (0, -1, True, False):
                self.assert_refused(shop, NoDevice, word, number)
        shop.give("a")
        for word in ("cut", "wake"):
            for number in (1, -1, True, False):
                self.assert_refused(shop, NoDevice, word, number)
        self.assert_refused(shop, Awake, "wake", 0)
        shop.cut(0)
        self.assert_refused(shop, Asleep, "cut", 0)
        self.assert_refused(shop, NoDevice, "cut", 1)


class TestTold(ShopTest):
    def test_devices_that_are_not_there(self):
        shop = shop_of_editions(STEPS)
        shop.give("a")
        for number in (1, 4, -1, True, False):
            for told in (shop.holds, shop.bytes_of, shop.wear, shop.stands):
                with self.assertRaises(NoDevice):
                    told(number)
        for told in (Shop().holds, Shop().bytes_of, Shop().wear, Shop().stands):
            with self.assertRaises(NoDevice):
                told(0)

    def test_several_devices(self):
        shop = shop_of_editions(STEPS)
        for name in "aabc":
            shop.give(name)
        for number in range(4):
            shop.send(number, "c")
        shop.go(1, 2)
        shop.cut(2)
        self.assertEqual([shop.stands(number) for number in range(4)], [
            ("rests",), ("goes", 1, 1), ("asleep", 0), ("rests",),
        ])
        self.assertEqual([shop.holds(number) for number in range(4)], [
            ("a", ["c"]), ("a", ["c"]), ("b", ["c"]), ("c", []),
        ])
        self.assertEqual(shop.sent(), 3 * size(least(b"x", b"z")))

    def test_what_is_told_may_be_changed(self):
        shop = shop_of_editions(STEPS)
        shop.give("a")
        shop.send(0, "b")
        ahead = copy.deepcopy(shop_picture(shop))
        shop.wear(0)[0] = 5
        shop.holds(0)[1].clear()
        self.assertIs(type(shop.holds(0)), tuple)
        self.assertEqual(shop_picture(shop), ahead)


if __name__ == "__main__":
    unittest.main()
