"""device_bytes, device_of: [19], [21]."""

import random
import unittest

from patchover.coding import coded
from patchover.devices import Device
from patchover.images import device_bytes, device_of, shop_bytes
from patchover.shops import Shop
from tests.imaging import (
    STATE, WEAR, ImageTest, amid_image, checked, device_image, number, places, some_devices, whole, work,
)
from tests.pictures import device_picture
from tests.samples import FULL, copying_patches
from tests.test_devices import EDITION, PATCH, begun


class TestDeviceBytes(ImageTest):
    def test_at_rest(self):
        for edition in (b"", b"a", EDITION, FULL[:127], FULL[:128], FULL):
            self.assertEqual(device_bytes(Device(edition)), device_image(edition, 0, number(len(edition))))
        device = Device(EDITION)
        device.cut()
        self.assertEqual(device_bytes(device), device_image(EDITION, 2, b"\x06"))
        # Cells behind the edition may hold other bytes.
        device = begun(EDITION, (("copy", 0, 2),))
        self.assertEqual(device_bytes(device), device_image(EDITION, 0, b"\x02"))

    def test_behind_a_patch(self):
        device = begun()
        device.go(10000)
        self.assertEqual(device_bytes(device), device_image(
            b"bcxyzf", 0, b"\x05", [1] * 5 + [0] * 195, (4, 2),
        ))

    def test_amid_a_patch(self):
        # What each number of writes has come to: cells, steps, part and both marks.
        cells = [b"abcdef", b"bbcdef", b"bccdef", b"bcxdef", b"bcxyef", b"bcxyzf"]
        for many, (steps, part, marks, worn) in enumerate((
            (0, 0, (None, 0), (0, 0)), (1, 0, (None, 0), (0, 0)), (1, 1, (None, 0), (1, 0)), (1, 0, (1, 0), (2, 0)),
            (2, 0, (1, 0), (2, 0)), (2, 1, (1, None), (2, 1)), (2, 0, (1, 2), (2, 2)), (3, 0, (1, 2), (2, 2)),
            (4, 0, (1, 2), (2, 2)), (5, 0, (1, 2), (2, 2)), (5, 1, (None, 2), (3, 2)),
        )):
            with self.subTest(many=many):
                device = begun()
                device.go(many)
                wear = [1] * steps + [0] * (200 - steps)
                self.assertEqual(device_bytes(device), device_image(
                    cells[steps], 1, work(PATCH, steps, part, marks), wear, worn,
                ))
                device.cut()
                mark = max([mark for mark in marks if mark is not None])
                self.assertEqual(device_bytes(device), device_image(
                    cells[steps], 3, work(PATCH, mark, 0, marks), wear, worn,
                ))
                device.wake()
                # As it's torn, a place has no mark still.
                self.assertEqual(device_bytes(device), device_image(
                    cells[steps], 1, work(PATCH, mark, 0, marks), wear, worn,
                ))

    def test_the_patch_as_it_is_done(self):
        device = begun(b"abcde", (("copy", 2, 3), ("copy", 0, 2)))
        self.assertEqual(device_bytes(device), device_image(
            b"abcde", 1, work((("copy", 2, 3), ("bring", b"ab")), 0, 0, (None, 0), b"abcde"),
        ))

    def test_numbers_of_several_bytes(self):
        device = Device(b"")
        for turn in range(130):
            device.begin((("run", turn, 1),))
            device.go(10000)
        self.assertEqual(device_bytes(device), device_image(
            b"\x81", 0, b"\x01", [130] + [0] * 199, (260, 0),
        ))
        self.assertEqual(device_bytes(device)[WEAR:WEAR + 2], b"\x82\x01")

    def test_nothing_is_changed(self):
        for device in some_devices():
            ahead = device_picture(device)
            told = device_bytes(device)
            self.assertEqual(device_picture(device), ahead)
            self.assertEqual(device_bytes(device), told)


class TestDeviceOf(ImageTest):
    def test_what_is_read_is_the_same_and_goes_on_so(self):
        for device in some_devices():
            other = device_of(device_bytes(device))
            self.assertIsInstance(other, Device)
            self.go_on(device.twin(), other)

    def go_on(self, device, other):
        """Do the same with both, and compare all they tell."""
        for many in (0, 1, 1, 2, 4, 10000):
            self.assertEqual(device_picture(other), device_picture(device))
            self.assertEqual(device_bytes(other), device_bytes(device))
            if device.stands()[0] == "asleep":
                self.assertEqual(other.wake(), device.wake())
                self.assertEqual(device_picture(other), device_picture(device))
            self.assertEqual(other.go(many), device.go(many))
            device.cut()
            other.cut()
        self.assertEqual(device_picture(other), device_picture(device))

    def test_at_random(self):
        chance = random.Random(92)
        for patch in copying_patches(93, 120, 6, 5):
            device = begun(FULL, patch)
            for _ in range(chance.randrange(5)):
                device.go(chance.randrange(30))
                device.cut()
                if chance.random() < 0.7:
                    device.wake()
                else:
                    break
            other = device_of(device_bytes(device))
            self.go_on(device, other)

    def test_it_goes_on_without_a_cut(self):
        for device in some_devices():
            if device.stands()[0] == "asleep":
                continue
            other = device_of(device_bytes(device))
            while device.go(1):
                self.assertEqual(other.go(1), 1)
                self.assertEqual(device_bytes(other), device_bytes(device))
            self.assertEqual(other.go(1), 0)
            self.assertEqual(device_picture(other), device_picture(device))

    def test_it_does_other_patches(self):
        for device in some_devices():
            other = device_of(device_bytes(device))
            for one in (device, other):
                if one.stands()[0] == "asleep":
                    one.wake()
                one.go(10000)
                one.begin((("bring", EDITION),))
                one.go(10000)
                one.begin(PATCH)
                one.go(7)
            self.assertEqual(device_picture(other), device_picture(device))
            self.assertEqual(device_bytes(other), device_bytes(device))

    def test_cut_off_at_each_place(self):
        for device in (Device(EDITION), begun(), some_devices()[15], some_devices()[-1]):
            self.assert_cut_off(device_of, device_bytes(device))
        device = begun()
        device.go(5)
        device.cut()
        self.assert_cut_off(device_of, device_bytes(device))

    def test_the_first_byte(self):
        image = device_bytes(Device(EDITION))
        for byte in (0, 67, 69, 83, 255):
            self.assert_bad(device_of, bytes([byte]) + image[1:], 0)
        self.assert_bad(device_of, shop_bytes(Shop()), 0)

    def test_numbers_that_cannot_be(self):
        image = device_bytes(Device(EDITION))
        for at in (WEAR, WEAR + 1, WEAR + 199, WEAR + 200, WEAR + 201):
            for bad, place in (
                (b"\x80\x00", 1), (b"\xff\x00", 1), (b"\x80\x80\x00", 2), (b"\x80\x80\x80\x00", 3),
                (b"\x80\x80\x80\x80\x00", 4), (b"\x80\x80\x80\x80\x80", 4), (b"\xff\xff\xff\xff\xff\x01", 4),
                (b"\x80\x80\x80\x80\x80\x00", 4),
            ):
                self.assert_bad(device_of, checked(image[:at] + bad + image[at + 1:-1]), at + place)

    def test_numbers_of_up_to_five_bytes(self):
        for worth in (127, 128, 16383, 16384, 2097151, 2097152, 268435455, 268435456, 34359738367):
            image = device_image(EDITION, 0, b"\x06", [0, worth] + [0] * 198, (worth, 5))
            device = device_of(image)
            self.assertEqual((device.wear()[1], device.places_worn()), (worth, (worth, 5)))
            self.assertEqual(device_bytes(device), image)

    def test_other_bytes_than_those_told(self):
        image = device_bytes(Device(EDITION))
        for byte in (4, 5, 128, 255):
            self.assert_bad(device_of, checked(image[:STATE] + bytes([byte]) + image[STATE + 1:-1]), STATE)
        device = begun()
        device.go(1)
        image = device_bytes(device)
        part = len(image) - 1 - 4 - 1
        for byte in (2, 3, 255):
            self.assert_bad(device_of, checked(image[:part] + bytes([byte]) + image[part + 1:-1]), part)
            for place in (part + 1, part + 3):
                self.assert_bad(device_of, checked(image[:place] + bytes([byte]) + image[place + 1:-1]), place)
        # Asleep none of a mark's writes is done.
        device.go(1)
        device.cut()
        image = device_bytes(device)
        for byte in (1, 2):
            self.assert_bad(device_of, checked(image[:part] + bytes([byte]) + image[part + 1:-1]), part)

    def test_within_the_code_of_a_patch(self):
        image = device_bytes(begun())
        code = STATE + 1 + 7
        self.assertEqual(image[code:code + len(coded(PATCH))], coded(PATCH))
        for at, bad, place in (
            (1, b"\x03", 1), (1, b"\xff", 1), (1, b"\x00", 1), (1, b"\x01", 1),
            (1, b"\x88\x00", 2), (1, b"\x88\x80", 2),
            (0, b"\x82\x00", 1), (0, b"\x82\x81", 1), (2, b"\x81\x00", 3), (3, b"\x0f", 3),
        ):
            some = image[:code + at] + bad + image[code + at + len(bad):-1]
            self.assert_bad(device_of, checked(some), code + place)
        # The check of the code itself.
        last = code + len(coded(PATCH)) - 1
        self.assert_bad(device_of, checked(image[:last] + bytes([image[last] + 1]) + image[last + 1:-1]), last)

    def test_one_that_must_hold_too_many_bytes(self):
        for many in (201, 255, 16384, 34359738367):
            for state in (0, 2):
                image = device_image(EDITION, state, number(many))
                self.assert_bad(device_of, image, len(image) - 1)
        self.assertEqual(device_of(device_image(EDITION, 0, number(200))).edition(), EDITION + bytes(194))
        image = amid_image(1, (("run", 7, 1),), 0, 0, (None, 0), bytes(200))
        self.assertEqual(device_bytes(device_of(image)), image)
        image = device_image(b"", 1, work((("run", 7, 1),), 0, 0, (None, 0), bytes(201)))
        self.assert_bad(device_of, image, len(image) - 1)

    def test_patches_that_cannot_be(self):
        for code in (
            # Two runs that come to too many bytes, a copy beyond all editions, a run of too many bytes.
            checked(b"\x02\xa2\x06\x07\x06\x07"), checked(b"\x01\x04\xc8\x01"), checked(b"\x01\xa6\x06\x07"),
        ):
            for state in (1, 3):
                rest = whole(EDITION) + code + b"\x00\x00" + places(None, 0)
                image = device_image(EDITION, state, rest)
                self.assert_bad(device_of, image, len(image) - 1)
        for patch in (
            # Beyond the old edition, with a ring, and two without steps.
            (("copy", 1, 6),), (("run", 7, 1), ("copy", 6, 1)), (("copy", 1, 1), ("copy", 0, 1)), (), (("copy", 0, 3),),
            tuple([("copy", (piece + 1) % 6, 1) for piece in range(6)]),
        ):
            for state in (1, 3):
                image = amid_image(state, patch, 0, 0, (None, 0))
                self.assert_bad(device_of, image, len(image) - 1)

    def test_marks_and_steps_that_do_not_go_with_the_patch(self):
        # All that can stand by the marks 1, 2 and 5, awake.
        can_be = {}
        for steps, part, marks in (
            (0, 0, (None, 0)), (1, 0, (None, 0)), (1, 1, (None, 0)),
            (1, 0, (1, 0)), (2, 0, (1, 0)), (1, 0, (1, None)), (2, 0, (1, None)), (2, 1, (1, None)),
            (2, 0, (1, 2)), (3, 0, (1, 2)), (4, 0, (1, 2)), (5, 0, (1, 2)),
            (2, 0, (None, 2)), (3, 0, (None, 2)), (4, 0, (None, 2)), (5, 0, (None, 2)), (5, 1, (None, 2)),
        ):
            can_be[steps, part, marks] = True
        worths = (None, 0, 1, 2, 3, 5, 6)
        for marks in [(first, second) for first in worths for second in worths]:
            for steps in (0, 1, 2, 3, 4, 5, 6, 200, 300):
                for part in (0, 1):
                    image = amid_image(1, PATCH, steps, part, marks)
                    if (steps, part, marks) in can_be:
                        self.assertEqual(device_bytes(device_of(image)), image)
                    else:
                        self.assert_bad(device_of, image, len(image) - 1)
                asleep = amid_image(3, PATCH, steps, 0, marks)
                if (steps, 0, marks) in can_be and steps == max([mark for mark in marks if mark is not None]):
                    self.assertEqual(device_bytes(device_of(asleep)), asleep)
                else:
                    self.assert_bad(device_of, asleep, len(asleep) - 1)

    def test_a_torn_place_with_a_mark(self):
        for marks in (b"\x00\x01\x01\x00", b"\x00\x05\x01\x00", b"\x01\x01\x00\x02"):
            steps = 1 if marks[0] else 0
            image = device_image(EDITION, 1, whole(EDITION) + coded(PATCH) + bytes([steps, 0]) + marks)
            self.assert_bad(device_of, image, len(image) - 1)

    def test_what_reads_not_comes_ahead_of_what_stands_not(self):
        image = amid_image(1, (), 0, 0, (None, 0))
        self.assert_bad(device_of, image + b"\x00", len(image))
        self.assert_bad(device_of, image[:-1], len(image) - 1)
        image = device_image(EDITION, 0, number(201))
        self.assert_bad(device_of, image + b"\x00", len(image))


if __name__ == "__main__":
    unittest.main()
