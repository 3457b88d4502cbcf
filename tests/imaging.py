"""Images written by the words of the document, and devices and shops of which they are tried out."""

import random
import unittest

from patchover.coding import coded
from patchover.devices import Device
from patchover.errors import BadImage, PatchError
from patchover.shops import Shop
from tests.samples import EDITIONS, FULL, shop_of_editions
from tests.test_deeds import random_deed
from tests.test_devices import EDITION, PATCH, begun

# Where in a device's image the wear begins, if no cell had 128 writes or more, and the byte behind all wear.
WEAR = 201
STATE = WEAR + 202


def number(worth):
    """Tell a number as bytes, by the words of the document."""
    if worth < 128:
        return bytes([worth])
    return bytes([worth % 128 + 128]) + number(worth // 128)


def name(word):
    """Tell a name as bytes."""
    return bytes([len(word), *[ord(letter) for letter in word]])


def whole(edition):
    """Tell an edition as bytes."""
    return number(len(edition)) + edition


def checked(some):
    """Tell bytes with their check behind them."""
    return some + bytes([sum(some) % 251])


def places(first, second):
    """Tell both places as bytes; a torn one is told as None."""
    return b"".join([bytes([0, 0]) if mark is None else b"\x01" + number(mark) for mark in (first, second)])


def device_image(cells, state, rest, wear=(0,) * 200, worn=(0, 0)):
    """Tell the image of a device, of which all behind the state is handed in as bytes."""
    cells = cells + bytes(200 - len(cells))
    return checked(b"D" + cells + b"".join([number(many) for many in (*wear, *worn)]) + bytes([state]) + rest)


def work(patch, steps, part, marks, old=EDITION):
    """Tell as bytes what is under way."""
    return whole(old) + coded(patch) + number(steps) + bytes([part]) + places(*marks)


def amid_image(state, patch, steps, part, marks, old=EDITION):
    """Tell the image of a device by which a patch is under way."""
    return device_image(old, state, work(patch, steps, part, marks, old))


def shop_image(editions, devices=(), sent=0):
    """Tell the image of a shop, of which editions and devices are handed in as bytes."""
    some = b"S" + bytes([len(editions)]) + b"".join(editions) + bytes([len(devices)]) + b"".join(devices)
    return checked(some + number(sent))


def house(word, legs, begun_first, device):
    """Tell a device of a house as bytes, of legs (name, patch) and the device's image."""
    some = name(word) + bytes([len(legs), begun_first])
    return some + b"".join([name(other) + coded(patch) for other, patch in legs]) + device


def kept_whole(word, edition):
    """Tell as bytes an edition that is kept whole."""
    return name(word) + b"\x00" + whole(edition)


def kept_by(word, base, patch):
    """Tell as bytes an edition that is kept by a patch."""
    return name(word) + b"\x01" + name(base) + coded(patch)


def some_devices():
    """Tell devices at rest, amid a patch, amid a mark, asleep, and with a place torn."""
    told = [Device(b""), Device(EDITION), Device(FULL), begun(b"", (("run", 7, 200),)), begun(FULL, ())]
    for many in range(12):
        device = begun()
        device.go(many)
        told.append(device)
        asleep = device.twin()
        asleep.cut()
        told.append(asleep)
        woken = asleep.twin()
        woken.wake()
        told.append(woken)
        again_torn = woken.twin()
        again_torn.go(2)
        told.append(again_torn)
    worn = Device(EDITION)
    for _ in range(70):
        worn.begin(PATCH)
        worn.go(10000)
        worn.begin((("bring", EDITION),))
        worn.go(10000)
    worn.begin(PATCH)
    worn.go(4)
    told.append(worn)
    return told


def some_shops():
    """Tell shops of nothing, of editions whole and by patches, and with devices amid patches and such as wait."""
    told = [Shop(), shop_of_editions({"a": b"", "az": b"az", "zzzzzzzz": b""}), shop_of_editions(EDITIONS)]
    shop = shop_of_editions(EDITIONS)
    for word, base in (("b", "a"), ("c", "b"), ("f", "a"), ("a", "e")):
        shop.lean(word, base)
    told.append(shop)
    shop = shop_of_editions(EDITIONS)
    for word in "abcd":
        shop.give(word)
    for word in "bcd":
        shop.send(0, word)
        shop.send(1, word)
    shop.send(2, "a")
    shop.go(0, 5)
    shop.go(1, 30)
    shop.cut(1)
    shop.cut(3)
    shop.drop("f")
    shop.lean("e", "d")
    told.append(shop)
    chance = random.Random(91)
    for _ in range(6):
        shop = shop_of_editions({"a": EDITIONS["a"], "bcdefghi": EDITIONS["b"]})
        shop.give("bcdefghi")
        for _ in range(60):
            try:
                shop.do(random_deed(chance))
            except PatchError:
                pass
        told.append(shop)
    return told


class ImageTest(unittest.TestCase):
    def assert_bad(self, told, image, place):
        with self.subTest(image=image.hex(), place=place):
            with self.assertRaises(BadImage) as caught:
                told(image)
            self.assertEqual(caught.exception.place, place)

    def assert_cut_off(self, told, image):
        """See that an image can't be read when cut off at each place, with a byte behind, or with another check."""
        for many in range(len(image)):
            self.assert_bad(told, image[:many], many)
        for byte in (0, 1, 255):
            self.assert_bad(told, image + bytes([byte]), len(image))
        self.assert_bad(told, image + image, len(image))
        for add in (1, 5, 250):
            self.assert_bad(told, image[:-1] + bytes([(image[-1] + add) % 256]), len(image) - 1)
