"""shop_bytes, shop_of: [20], [21]."""

import random
import unittest

from patchover.coding import coded
from patchover.devices import Device
from patchover.errors import PatchError
from patchover.finding import least
from patchover.images import device_bytes, shop_bytes, shop_of
from patchover.shops import Shop
from tests.imaging import (
    ImageTest, amid_image, checked, device_image, house, kept_by, kept_whole, name, number, shop_image, some_shops,
    work,
)
from tests.pictures import devices_of, shop_picture
from tests.samples import BLOCKS, FULL, TURNED, shop_of_editions
from tests.test_deeds import random_deed


class TestShopBytes(ImageTest):
    def test_of_nothing(self):
        self.assertEqual(shop_bytes(Shop()), checked(b"S\x00\x00\x00"))

    def test_editions(self):
        shop = shop_of_editions({"b": b"bcdefg", "a": b"abcdef", "zzzzzzzz": b""})
        self.assertEqual(shop_bytes(shop), shop_image([
            kept_whole("a", b"abcdef"), kept_whole("b", b"bcdefg"), kept_whole("zzzzzzzz", b""),
        ]))
        shop.lean("a", "b")
        self.assertEqual(shop_bytes(shop), shop_image([
            kept_by("a", "b", (("bring", b"a"), ("copy", 0, 5))), kept_whole("b", b"bcdefg"),
            kept_whole("zzzzzzzz", b""),
        ]))
        self.assertEqual(shop_bytes(shop_of_editions({"a": FULL})), shop_image([kept_whole("a", FULL)]))

    def test_devices(self):
        shop = shop_of_editions({"a": b"abcdef", "b": b"bcdefg"})
        editions = [kept_whole("a", b"abcdef"), kept_whole("b", b"bcdefg")]
        shop.give("b")
        shop.give("a")
        there, back = least(b"abcdef", b"bcdefg"), least(b"bcdefg", b"abcdef")
        rests = [device_image(b"bcdefg", 0, b"\x06"), device_image(b"abcdef", 0, b"\x06")]
        self.assertEqual(shop_bytes(shop), shop_image(editions, [
            house("b", [], 0, rests[0]), house("a", [], 0, rests[1]),
        ]))
        shop.send(1, "b")
        shop.send(1, "a")
        self.assertEqual(shop_bytes(shop), shop_image(editions, [
            house("b", [], 0, rests[0]), house("a", [("b", there), ("a", back)], 0, rests[1]),
        ], 12))
        shop.go(1, 0)
        self.assertEqual(shop_bytes(shop), shop_image(editions, [
            house("b", [], 0, rests[0]),
            house("a", [("b", there), ("a", back)], 1, amid_image(1, there, 0, 0, (None, 0), b"abcdef")),
        ], 12))
        shop.go(1, 18)
        image = device_image(b"bcdefg", 1, work(back, 0, 0, (None, 0), b"bcdefg"), [1] * 6 + [0] * 194, (6, 6))
        self.assertEqual(shop_bytes(shop), shop_image(editions, [
            house("b", [], 0, rests[0]), house("b", [("a", back)], 1, image),
        ], 12))

    def test_the_patch_as_it_was_sent(self):
        old, new = FULL[:40], FULL[20:40] + FULL[:20]
        shop = shop_of_editions({"a": old, "b": new})
        shop.give("a")
        shop.send(0, "b")
        shop.go(0, 0)
        sent = (("copy", 20, 20), ("copy", 0, 20))
        done = (("bring", FULL[20:40]), ("copy", 0, 20))
        self.assertEqual(shop_bytes(shop), shop_image([kept_whole("a", old), kept_whole("b", new)], [
            house("a", [("b", sent)], 1, amid_image(1, done, 0, 0, (None, 0), old)),
        ], shop.sent()))

    def test_what_was_sent(self):
        shop = shop_of_editions({"a": b"", "b": FULL})
        shop.give("a")
        while shop.sent() < 20000:
            shop.send(0, "b")
            shop.send(0, "a")
            shop.go(0, 10000)
            self.assertEqual(shop_of(shop_bytes(shop)).sent(), shop.sent())
        self.assertEqual(shop_bytes(shop)[-4:-1], number(shop.sent()))

    def test_nothing_is_changed(self):
        for shop in some_shops():
            ahead, deeds = shop_picture(shop), shop.deeds()
            self.assertEqual((shop_picture(shop), shop.deeds()), (ahead, deeds))


class TestShopOf(ImageTest):
    def test_what_is_read_is_the_same_but_has_no_deeds(self):
        for shop in some_shops():
            other = shop_of(shop_bytes(shop))
            self.assertIsInstance(other, Shop)
            self.assertEqual(shop_picture(other), shop_picture(shop))
            self.assertEqual(other.deeds(), [])
            self.assertIs(other.back(), False)
            self.assertEqual(shop_picture(other), shop_picture(shop))

    def test_it_goes_on_as_it_did(self):
        chance = random.Random(94)
        for shop in some_shops():
            other = shop_of(shop_bytes(shop))
            ahead = shop_picture(other)
            did = 0
            for _ in range(50):
                deed = random_deed(chance)
                try:
                    told = shop.do(deed)
                except PatchError as refusal:
                    with self.assertRaises(type(refusal)):
                        other.do(deed)
                else:
                    did += 1
                    self.assertEqual(other.do(deed), told)
                self.assertEqual(shop_picture(other), shop_picture(shop))
            self.assertEqual(other.deeds(), shop.deeds()[-did:])
            for _ in range(did):
                self.assertIs(other.back(), True)
            self.assertIs(other.back(), False)
            self.assertEqual(shop_picture(other), ahead)

    def test_all_devices_go_to_their_ends(self):
        for shop in some_shops():
            other = shop_of(shop_bytes(shop))
            for at in range(devices_of(shop)):
                if shop.stands(at)[0] == "asleep":
                    self.assertEqual(other.wake(at), shop.wake(at))
                self.assertEqual(other.go(at, 10000), shop.go(at, 10000))
            self.assertEqual(shop_picture(other), shop_picture(shop))

    def test_cut_off_at_each_place(self):
        self.assert_cut_off(shop_of, shop_bytes(Shop()))
        for shop in some_shops()[3:7]:
            self.assert_cut_off(shop_of, shop_bytes(shop))

    def test_the_first_byte(self):
        image = shop_bytes(shop_of_editions({"a": b"x"}))
        for byte in (0, 68, 82, 84, 255):
            self.assert_bad(shop_of, bytes([byte]) + image[1:], 0)
        self.assert_bad(shop_of, device_bytes(Device(b"")), 0)

    def test_other_bytes_than_those_told(self):
        image = shop_image([kept_whole("ab", b"xy")], [house("ab", [], 0, device_image(b"xy", 0, b"\x02"))])
        self.assertEqual(shop_bytes(shop_of(image)), image)
        for place, some in (
            # How many editions, how many letters, letters, how it's kept, how many devices, a flag.
            (1, (7, 8, 255)), (2, (0, 9, 255)), (3, (96, 123, 65, 0)), (4, (96, 123)), (5, (2, 255)), (9, (5, 255)),
            (10, (0, 9)), (11, (96, 123)), (14, (2, 255)), (15, (67, 83)),
        ):
            for byte in some:
                self.assert_bad(shop_of, checked(image[:place] + bytes([byte]) + image[place + 1:-1]), place)

    def test_other_bytes_of_an_edition_that_leans_and_of_legs(self):
        patch = (("copy", 0, 2),)
        editions = [kept_whole("a", b"xyz"), kept_by("b", "a", patch)]
        image = shop_image(editions, [house("a", [("b", patch)], 0, device_image(b"xyz", 0, b"\x03"))], 4)
        self.assertEqual(shop_bytes(shop_of(image)), image)
        base = 2 + len(editions[0]) + 3
        leg = base + 2 + len(coded(patch)) + 1 + 2 + 2
        self.assertEqual((image[base:base + 2], image[leg:leg + 2]), (b"\x01a", b"\x01b"))
        for at in (base, leg):
            for place, byte in ((at, 0), (at, 9), (at + 1, 96), (at + 1, 123), (at + 3, 11), (at + 3, 0), (at + 5, 1)):
                self.assert_bad(shop_of, checked(image[:place] + bytes([byte]) + image[place + 1:-1]), place)

    def test_a_needless_0(self):
        image = shop_image([kept_whole("a", b"xyz")])
        self.assert_bad(shop_of, checked(image[:5] + b"\x83\x00" + image[6:-1]), 6)
        self.assert_bad(shop_of, checked(image[:-2] + b"\x80\x00"), len(image) - 1)
        self.assert_bad(shop_of, checked(image[:-2] + b"\x80\x80\x80\x80\x80\x01"), len(image) - 2 + 4)

    def test_shops_that_cannot_stand(self):
        a, b = kept_whole("a", b"abcdef"), kept_whole("b", b"bcdefg")
        by_b = kept_by("a", "b", (("bring", b"a"), ("copy", 0, 5)))
        there, back = least(b"abcdef", b"bcdefg"), least(b"bcdefg", b"abcdef")
        rests = device_image(b"abcdef", 0, b"\x06")
        goes = amid_image(1, there, 0, 0, (None, 0), b"abcdef")
        other = amid_image(1, (("bring", b"bcdefg"),), 0, 0, (None, 0), b"abcdef")
        longer = amid_image(1, there, 0, 0, (None, 0), b"abcdefg")
        for editions, devices in (
            # Names that don't rise, an edition of too many bytes.
            ([b, a], []), ([a, a], []), ([kept_whole("aa", b""), a], []), ([kept_whole("a", bytes(201))], []),
            # Bases that aren't there, or lean on their editions.
            ([by_b], []), ([kept_by("a", "a", ())], []), ([kept_by("a", "b", ()), kept_by("b", "a", ())], []),
            ([kept_by("a", "b", ()), kept_by("b", "c", ()), kept_by("c", "a", ())], []),
            ([kept_by("a", "b", ()), kept_by("b", "b", ())], []),
            # Patches that can't be of their base, or at all.
            ([kept_by("a", "b", (("copy", 0, 7),)), b], []), ([kept_by("a", "b", (("copy", 6, 1),)), b], []),
            ([name("a") + b"\x01" + name("b") + checked(b"\x02\xa2\x06\x07\x06\x07"), b], []),
            ([name("a") + b"\x01" + name("b") + checked(b"\x01\xa6\x06\x07"), b], []),
            # Names of devices that aren't there.
            ([a, b], [house("c", [], 0, rests)]), ([], [house("a", [], 0, rests)]),
            ([a, b], [house("a", [("c", there)], 0, rests)]), ([a, b], [house("a", [("c", there)], 1, goes)]),
            ([a, b], [house("a", [("b", there), ("c", back)], 0, rests)]),
            # Patches that aren't between both editions.
            ([a, b], [house("a", [("b", back)], 0, rests)]),
            ([a, b], [house("a", [("b", (("copy", 0, 7),))], 0, rests)]),
            ([a, b], [house("a", [("b", there), ("b", there)], 0, rests)]),
            # The first is under way, but the device rests, and the other way around.
            ([a, b], [house("a", [("b", there)], 1, rests)]), ([a, b], [house("a", [("b", there)], 0, goes)]),
            ([a, b], [house("a", [], 1, rests)]), ([a, b], [house("a", [], 0, goes)]),
            ([a, b], [house("a", [], 1, goes)]),
            # The device holds other bytes, or does another patch.
            ([a, b], [house("b", [], 0, rests)]), ([a, b], [house("a", [], 0, device_image(b"abcdef", 0, b"\x05"))]),
            ([a, b], [house("a", [], 0, device_image(b"abcdeg", 0, b"\x06"))]),
            ([a, b], [house("a", [("b", there)], 1, other)]), ([a, b], [house("a", [("b", there)], 1, longer)]),
        ):
            image = shop_image(editions, devices)
            self.assert_bad(shop_of, image, len(image) - 1)

    def test_those_can_stand(self):
        # What the ones ahead were made of.
        a, b = kept_whole("a", b"abcdef"), kept_whole("b", b"bcdefg")
        by_b = kept_by("a", "b", (("bring", b"a"), ("copy", 0, 5)))
        there, back = least(b"abcdef", b"bcdefg"), least(b"bcdefg", b"abcdef")
        rests = device_image(b"abcdef", 0, b"\x06")
        goes = amid_image(1, there, 0, 0, (None, 0), b"abcdef")
        for editions, devices in (
            ([a, b], []), ([by_b, b], []), ([kept_by("a", "b", ()), kept_by("b", "c", ()), kept_whole("c", b"")], []),
            ([a, b], [house("a", [], 0, rests)]), ([a, b], [house("a", [("b", there)], 0, rests)]),
            ([by_b, b], [house("a", [("b", there), ("a", back)], 1, goes)]),
        ):
            image = shop_image(editions, devices, 5)
            self.assertEqual(shop_bytes(shop_of(image)), image)

    def test_a_patch_that_waits_but_cannot_be_done(self):
        some = [kept_whole("a", BLOCKS), kept_whole("b", TURNED)]
        image = shop_image(some, [house("a", [("b", least(BLOCKS, TURNED))], 0, device_image(BLOCKS, 0, b"\x78"))])
        self.assert_bad(shop_of, image, len(image) - 1)

    def test_a_device_that_cannot_stand(self):
        a, b = kept_whole("a", b"abcdef"), kept_whole("b", b"bcdefg")
        there = least(b"abcdef", b"bcdefg")
        rests = device_image(b"abcdef", 0, b"\x06")
        for legs, flag, device in (
            ([], 0, device_image(b"abcdef", 0, number(201))),
            ([("b", there)], 1, amid_image(1, there, 2, 0, (None, 0), b"abcdef")),
            ([("b", there)], 1, amid_image(1, (("copy", 1, 1), ("copy", 0, 1)), 0, 0, (None, 0), b"abcdef")),
        ):
            # Its own check's place is told, also where the shop can't stand either.
            for editions in ([a, b], [b, a], [b]):
                ahead = b"S" + bytes([len(editions)]) + b"".join(editions) + b"\x02" + house("a", legs, flag, device)
                image = checked(ahead + house("a", [], 0, rests) + b"\x00")
                self.assert_bad(shop_of, image, len(ahead) - 1)
                # What doesn't read comes ahead, wherever it is.
                self.assert_bad(shop_of, image + b"\x00", len(image))
                self.assert_bad(shop_of, image[:-1] + bytes([(image[-1] + 1) % 251]), len(image) - 1)

    def test_the_check_of_a_device(self):
        image = shop_image([kept_whole("a", b"x")], [house("a", [], 0, device_image(b"x", 0, b"\x01"))])
        place = len(image) - 3
        self.assert_bad(shop_of, checked(image[:place] + bytes([image[place] + 1]) + image[place + 1:-1]), place)


if __name__ == "__main__":
    unittest.main()
