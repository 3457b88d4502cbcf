"""Device: [10], [11], [12]."""

import copy
import random
import unittest

from patchover.carrying import brought, lightest
from patchover.devices import Device
from patchover.errors import (
    Asleep, Awake, BadCell, BadCount, BadEdition, BadPatch, Beyond, PatchError, TooMany, Underway,
)
from patchover.hanging import order
from patchover.patches import done
from patchover.stepping import marks, steps
from tests.pictures import device_picture
from tests.samples import FULL, copying_patches, refused_patches

# Five writes of cells, and a mark behind 1, 2 and 5: eleven writes in all.
EDITION = b"abcdef"
PATCH = (("copy", 1, 2), ("bring", b"xyz"))
NEW = b"bcxyz"
# More than 14 pieces that each hang ahead of each other one.
KNOT = tuple([("copy", (piece + 1) % 15, 1) for piece in range(15)])


def begun(edition=EDITION, patch=PATCH):
    """Tell a device of an edition that has begun a patch."""
    device = Device(edition)
    device.begin(patch)
    return device


class Model:
    """What a device must tell, by a list of all writes that a patch needs."""

    def __init__(self, edition, patch):
        self.old = edition
        self.new = done(patch, edition)
        self.patch = brought(patch, lightest(patch)[1], edition)
        self.steps = steps(self.patch, order(self.patch))
        self.marks = marks(self.steps)
        self.writes = []
        for number in range(len(self.steps)):
            self.writes.append(("step", number))
            if number + 1 in self.marks:
                turn = self.marks.index(number + 1)
                self.writes.extend([("tear", turn), ("mark", turn)])
        self.at = 0
        self.cells = edition + bytes(200 - len(edition))
        self.wear = [0] * 200
        self.worn = [0, 0]
        self.asleep = False

    def ended(self):
        return self.at == len(self.writes)

    def whole(self):
        """Tell the mark from which it goes on, and which write comes behind it."""
        if self.ended():
            return 0, self.at
        found = [(0, 0)]
        for at, (word, turn) in enumerate(self.writes[:self.at]):
            if word == "mark":
                found.append((self.marks[turn], at + 1))
        return max(found)

    def go(self, many):
        begin = self.at
        while self.at < min(begin + many, len(self.writes)):
            word, number = self.writes[self.at]
            if word == "step":
                cell, (kind, worth) = self.steps[number]
                byte = self.cells[worth] if kind == "old" else worth
                self.cells = self.cells[:cell] + bytes([byte]) + self.cells[cell + 1:]
                self.wear[cell] += 1
            else:
                self.worn[number % 2] += 1
            self.at += 1
        return self.at - begin

    def wake(self):
        mark, self.at = self.whole()
        self.asleep = False
        return mark

    def stands(self):
        if self.asleep:
            return ("asleep", self.whole()[0])
        if self.ended():
            return ("rests",)
        did = self.writes[:self.at]
        part = 1 if did and did[-1][0] == "tear" else 0
        return ("goes", len([word for word, _ in did if word == "step"]), part)

    def picture(self):
        ended = self.ended()
        old = [cell for cell, byte in enumerate(self.old) if self.cells[cell] == byte]
        return (
            self.new if ended else None, self.cells, list(range(len(self.new))) if ended else old, self.wear,
            tuple(self.worn), None if ended else (self.patch, self.marks, self.steps), self.stands(),
        )


def trial(test, edition, patch, chance):
    """Lead a device and the model through one patch, cut again and again, and compare all they tell."""
    device, model = begun(edition, patch), Model(edition, patch)
    test.assertEqual(device_picture(device), model.picture())
    for _ in range(chance.randrange(12)):
        many = chance.choice((0, 1, 1, 2, 3, chance.randrange(40)))
        test.assertEqual(device.go(many), model.go(many))
        test.assertEqual(device_picture(device), model.picture())
        if chance.random() < 0.6:
            device.cut()
            model.asleep = True
            test.assertEqual(device_picture(device), model.picture())
            test.assertEqual(device.wake(), model.wake())
            test.assertEqual(device_picture(device), model.picture())
    test.assertEqual(device.go(10000), model.go(10000))
    test.assertEqual(device_picture(device), model.picture())


class TestMade(unittest.TestCase):
    def test_of_an_edition(self):
        for edition in (b"", b"a", EDITION, FULL[:199], FULL):
            with self.subTest(edition=edition):
                device = Device(edition)
                self.assertEqual(device_picture(device), (
                    edition, edition + bytes(200 - len(edition)), list(range(len(edition))), [0] * 200,
                    (0, 0), None, ("rests",),
                ))

    def test_an_edition_that_cannot_be(self):
        with self.assertRaises(BadEdition):
            Device(bytes(201))


class TestBegin(unittest.TestCase):
    def test_what_is_under_way(self):
        device = begun()
        self.assertEqual(device.under_way(), (PATCH, [1, 2, 5], [
            (0, ("old", 1)), (1, ("old", 2)), (2, ("new", 120)), (3, ("new", 121)), (4, ("new", 122)),
        ]))
        self.assertIsNone(device.edition())
        self.assertEqual(device.stands(), ("goes", 0, 0))
        self.assertEqual(device.wear(), [0] * 200)
        self.assertEqual(device.places_worn(), (0, 0))

    def test_the_lightest_pieces_are_brought(self):
        device = begun(b"abcde", (("copy", 2, 3), ("copy", 0, 2)))
        self.assertEqual(device.under_way(), (
            (("copy", 2, 3), ("bring", b"ab")), [2, 4, 5],
            [(0, ("old", 2)), (1, ("old", 3)), (2, ("old", 4)), (3, ("new", 97)), (4, ("new", 98))],
        ))
        device.go(10000)
        self.assertEqual(device.edition(), b"cdeab")

    def test_the_order_is_the_first(self):
        device = begun(EDITION, (("run", 33, 1), ("copy", 0, 1), ("run", 34, 1), ("copy", 2, 1)))
        self.assertEqual(device.under_way()[2], [
            (1, ("old", 0)), (0, ("new", 33)), (3, ("old", 2)), (2, ("new", 34)),
        ])

    def test_without_steps_it_is_done_at_once(self):
        for edition, patch, new in (
            (EDITION, (), b""), (EDITION, (("copy", 0, 6),), EDITION), (EDITION, (("copy", 0, 2),), b"ab"),
            (EDITION, (("copy", 0, 2), ("copy", 2, 1)), b"abc"), (b"", (), b""), (FULL, (("copy", 0, 200),), FULL),
        ):
            with self.subTest(edition=edition, patch=patch):
                device = begun(edition, patch)
                self.assertEqual(device_picture(device), (
                    new, edition + bytes(200 - len(edition)), list(range(len(new))), [0] * 200, (0, 0), None,
                    ("rests",),
                ))
                self.assertEqual(device.go(5), 0)

    def test_editions_of_0_and_of_200_bytes(self):
        for edition, patch, new, needs in (
            (b"", (("run", 7, 200),), bytes([7] * 200), 202),
            (FULL, (), b"", 0),
            (FULL, (("copy", 199, 1),), b"\xc7", 3),
            (FULL, (("copy", 1, 199), ("run", 7, 1)), FULL[1:] + b"\x07", 600),
            (FULL, (("run", 7, 1), ("copy", 0, 199)), b"\x07" + FULL[:199], 600),
        ):
            with self.subTest(patch=patch):
                device = begun(edition, patch)
                self.assertEqual(device.go(10000), needs)
                self.assertEqual(device.edition(), new)
                self.assertEqual(device.stands(), ("rests",))

    def test_cells_behind_the_edition_are_not_of_it(self):
        device = begun(EDITION, (("copy", 0, 2),))
        with self.assertRaises(Beyond):
            device.begin((("copy", 2, 1),))
        device.begin((("copy", 0, 2), ("run", 33, 1)))
        device.go(10000)
        self.assertEqual(device.edition(), b"ab!")
        self.assertEqual(device.peek(3), ord("d"))

    def test_refusals_in_turn(self):
        bad, far = (("copy", 0, 1), ("run", 7, 0)), (("run", 7, 1), ("copy", 6, 1))
        device = begun()
        device.go(4)
        self.assert_refused(device, BadPatch, bad)
        for patch in (PATCH, far, KNOT, ()):
            self.assert_refused(device, Underway, patch)
        device.cut()
        self.assert_refused(device, BadPatch, bad)
        for patch in (PATCH, far, KNOT, ()):
            self.assert_refused(device, Asleep, patch)
        device = Device(EDITION)
        self.assertEqual(self.assert_refused(device, BadPatch, bad).piece, 1)
        self.assertEqual(self.assert_refused(device, Beyond, far).piece, 1)
        self.assertEqual(self.assert_refused(device, Beyond, KNOT).piece, 5)
        device.cut()
        self.assert_refused(device, Asleep, PATCH)
        self.assert_refused(device, Asleep, KNOT)
        self.assert_refused(Device(FULL), TooMany, KNOT)
        self.assert_refused(Device(FULL[:15]), TooMany, KNOT)
        self.assert_refused(Device(FULL[:14]), Beyond, KNOT)

    def assert_refused(self, device, refusal, patch):
        ahead = device_picture(device)
        with self.assertRaises(refusal) as caught:
            device.begin(patch)
        self.assertEqual(device_picture(device), ahead)
        return caught.exception

    def test_a_patch_that_cannot_be(self):
        device = Device(FULL)
        for patch, piece in refused_patches():
            self.assertEqual(self.assert_refused(device, BadPatch, patch).piece, piece)


class TestGo(unittest.TestCase):
    def test_write_by_write(self):
        device = begun()
        told = [device.stands()]
        while device.go(1):
            told.append(device.stands())
        self.assertEqual(told, [
            ("goes", 0, 0), ("goes", 1, 0), ("goes", 1, 1), ("goes", 1, 0), ("goes", 2, 0), ("goes", 2, 1),
            ("goes", 2, 0), ("goes", 3, 0), ("goes", 4, 0), ("goes", 5, 0), ("goes", 5, 1), ("rests",),
        ])
        self.assertEqual(device.edition(), NEW)
        self.assertEqual(device.wear(), [1] * 5 + [0] * 195)
        self.assertEqual(device.places_worn(), (4, 2))
        self.assertIsNone(device.under_way())

    def test_it_tells_how_many(self):
        device = begun()
        self.assertEqual([device.go(many) for many in (0, 4, 5, 0, 5, 1, 0)], [0, 4, 5, 0, 2, 0, 0])
        self.assertEqual(begun().go(10000), 11)
        self.assertEqual(begun().go(11), 11)
        self.assertEqual(begun().go(10), 10)
        self.assertEqual(Device(EDITION).go(10000), 0)
        self.assertEqual(Device(EDITION).go(0), 0)

    def test_refusals(self):
        device = begun()
        device.go(5)
        for many in (-1, 10001, True, False):
            for asleep in (False, True):
                twin = copy.deepcopy(device)
                if asleep:
                    twin.cut()
                ahead = device_picture(twin)
                with self.assertRaises(BadCount):
                    twin.go(many)
                self.assertEqual(device_picture(twin), ahead)
        device.cut()
        ahead = device_picture(device)
        for many in (0, 1, 10000):
            with self.assertRaises(Asleep):
                device.go(many)
        self.assertEqual(device_picture(device), ahead)

    def test_several_patches_one_behind_the_other(self):
        device = begun()
        device.go(10000)
        device.begin((("copy", 2, 3), ("run", 33, 7)))
        # The marks begin with the first place again, whichever was written last.
        self.assertEqual(device.stands(), ("goes", 0, 0))
        self.assertEqual(device.go(4), 4)
        self.assertEqual(device.places_worn(), (6, 2))
        self.assertEqual(device.go(10000), 12)
        self.assertEqual(device.edition(), b"xyz!!!!!!!")
        self.assertEqual(device.wear(), [2] * 5 + [1] * 5 + [0] * 190)
        self.assertEqual(device.places_worn(), (8, 4))


class TestCutAndWake(unittest.TestCase):
    def test_cut_behind_each_write(self):
        told = []
        for many in range(12):
            device = begun()
            device.go(many)
            cells = [device.peek(cell) for cell in range(200)]
            device.cut()
            told.append(device.stands())
            # Not what lies in cells is forgotten.
            self.assertEqual([device.peek(cell) for cell in range(200)], cells)
            mark = device.wake()
            self.assertEqual(told[-1], ("asleep", mark))
            if many < 11:
                self.assertEqual(device.stands(), ("goes", mark, 0))
            device.go(10000)
            self.assertEqual(device.edition(), NEW)
        self.assertEqual([mark for _, mark in told], [0, 0, 0, 1, 1, 1, 2, 2, 2, 2, 2, 0])

    def test_a_cut_between_both_writes_of_a_mark(self):
        device = begun()
        device.go(5)
        self.assertEqual(device.stands(), ("goes", 2, 1))
        self.assertEqual(device.places_worn(), (2, 1))
        device.cut()
        self.assertEqual(device.stands(), ("asleep", 1))
        self.assertEqual(device.wake(), 1)
        self.assertEqual(device.stands(), ("goes", 1, 0))
        # The second step once more, then both writes of the second place, which was torn.
        self.assertEqual(device.go(3), 3)
        self.assertEqual(device.stands(), ("goes", 2, 0))
        self.assertEqual(device.places_worn(), (2, 3))
        self.assertEqual(device.go(10000), 5)
        self.assertEqual(device.places_worn(), (4, 3))
        self.assertEqual(device.wear()[:6], [1, 2, 1, 1, 1, 0])

    def test_a_torn_first_place_is_written_first(self):
        device = begun()
        device.go(2)
        for worn in (2, 3, 4):
            device.cut()
            self.assertEqual(device.wake(), 0)
            device.go(2)
            self.assertEqual(device.places_worn(), (worn, 0))

    def test_the_place_with_the_lesser_mark_is_written_next(self):
        for many, worn in ((3, (2, 1)), (6, (3, 2))):
            device = begun()
            device.go(many)
            device.cut()
            device.wake()
            device.go(2 if many == 3 else 4)
            self.assertEqual(device.places_worn(), worn)

    def test_again_and_again(self):
        device = begun()
        for _ in range(50):
            self.assertEqual(device.go(3), 3)
            device.cut()
            if device.wake() == 2:
                break
        self.assertEqual(device.stands(), ("goes", 2, 0))
        for _ in range(50):
            self.assertEqual(device.go(4), 4)
            device.cut()
            self.assertEqual(device.wake(), 2)
        self.assertEqual(device.wear()[:6], [1, 1, 50, 50, 50, 0])
        self.assertEqual(device.places_worn(), (2 + 50, 2))
        self.assertEqual(device.go(5), 5)
        self.assertEqual(device.edition(), NEW)

    def test_with_nothing_under_way(self):
        for device in (Device(EDITION), begun(EDITION, (("copy", 0, 2),)), begun()):
            device.go(10000)
            ahead = device_picture(device)
            device.cut()
            self.assertEqual(device_picture(device), (*ahead[:-1], ("asleep", 0)))
            self.assertEqual(device.wake(), 0)
            self.assertEqual(device_picture(device), ahead)

    def test_a_patch_begun_behind_a_wake(self):
        device = Device(EDITION)
        device.cut()
        device.wake()
        device.begin(PATCH)
        self.assertEqual(device.go(10000), 11)
        device.cut()
        device.wake()
        device.begin((("bring", b"q"),))
        self.assertEqual(device.stands(), ("goes", 0, 0))
        device.go(2)
        device.cut()
        # The marks of the patch ahead don't count.
        self.assertEqual(device.wake(), 0)
        self.assertEqual(device.go(10000), 3)
        self.assertEqual(device.edition(), b"q")

    def test_refusals(self):
        for many in (0, 2, 5, 7, 11):
            device = begun()
            device.go(many)
            ahead = device_picture(device)
            with self.assertRaises(Awake):
                device.wake()
            self.assertEqual(device_picture(device), ahead)
            device.cut()
            ahead = device_picture(device)
            with self.assertRaises(Asleep):
                device.cut()
            self.assertEqual(device_picture(device), ahead)
            device.wake()
            with self.assertRaises(Awake):
                device.wake()


class TestTold(unittest.TestCase):
    def test_peek(self):
        device = begun()
        device.go(7)
        self.assertEqual([device.peek(cell) for cell in (0, 1, 2, 3, 6, 199)], [98, 99, 120, 100, 0, 0])
        for cell in (-1, 200, 10000, True, False):
            with self.assertRaises(BadCell):
                device.peek(cell)

    def test_peek_while_asleep(self):
        device = begun()
        device.go(1)
        device.cut()
        self.assertEqual(device.peek(0), 98)
        with self.assertRaises(BadCell):
            device.peek(200)

    def test_old_for_good_or_by_chance(self):
        device = begun(b"aabcd", (("copy", 1, 3), ("run", 33, 1)))
        told = [device.old()]
        while device.go(1):
            told.append(device.old())
        # The first step writes an a over an a; the last cell of the new edition lies ahead of d.
        self.assertEqual(told, [
            [0, 1, 2, 3, 4], [0, 1, 2, 3, 4], [0, 1, 2, 3, 4], [0, 1, 2, 3, 4],
            [0, 2, 3, 4], [0, 2, 3, 4], [0, 2, 3, 4], [0, 3, 4], [0, 3, 4], [0, 3, 4], [0, 4], [0, 4], [0, 1, 2, 3],
        ])

    def test_old_of_a_longer_edition(self):
        # What lies behind the new edition is of the old one until all is done.
        device = begun(b"abcdef", (("run", 33, 2),))
        device.go(3)
        self.assertEqual(device.old(), [2, 3, 4, 5])
        device.go(1)
        self.assertEqual(device.old(), [0, 1])

    def test_old_of_a_shorter_edition(self):
        device = begun(b"ab", (("copy", 0, 2), ("run", 0, 3)))
        device.go(2)
        self.assertEqual(device.old(), [0, 1])
        device.cut()
        self.assertEqual(device.old(), [0, 1])

    def test_while_asleep(self):
        device = begun()
        device.go(4)
        device.cut()
        self.assertIsNone(device.edition())
        self.assertEqual(device.under_way()[:2], (PATCH, [1, 2, 5]))
        self.assertEqual(device.old(), [2, 3, 4, 5])
        device = Device(EDITION)
        device.cut()
        self.assertEqual(device.edition(), EDITION)
        self.assertEqual(device.old(), [0, 1, 2, 3, 4, 5])
        self.assertIsNone(device.under_way())

    def test_what_is_told_may_be_changed(self):
        device = begun()
        device.go(4)
        ahead = copy.deepcopy(device_picture(device))
        device.old().append(9)
        device.wear()[0] = 9
        device.under_way()[1].clear()
        device.under_way()[2].clear()
        self.assertEqual(device_picture(device), ahead)
        self.assertIs(type(device.places_worn()), tuple)
        self.assertEqual(device.go(10000), 7)
        self.assertEqual(device.edition(), NEW)

    def test_devices_do_not_share(self):
        one, other = begun(), begun()
        one.go(5)
        self.assertEqual(device_picture(other), device_picture(begun()))
        twin = one.twin()
        ahead = device_picture(one)
        self.assertEqual(device_picture(twin), ahead)
        twin.go(10000)
        twin.cut()
        self.assertEqual(device_picture(one), ahead)


class TestByModel(unittest.TestCase):
    def test_many_patches_cut_at_random(self):
        chance = random.Random(31)
        some = chance.randbytes(60)
        for patch in (*copying_patches(32, 250, 6, 3), *copying_patches(33, 60, 8, 7)):
            trial(self, some, patch, chance)

    def test_editions_of_few_bytes(self):
        # Old bytes stay by chance more often.
        chance = random.Random(34)
        for patch in copying_patches(35, 150, 6, 3):
            trial(self, bytes([chance.choice(b"ab") for _ in range(40)]), patch, chance)

    def test_many_patches_in_one_device(self):
        chance = random.Random(36)
        device, held = Device(FULL), FULL
        for patch in copying_patches(37, 200, 6, 6):
            try:
                device.begin(patch)
            except PatchError as refusal:
                self.assertIsInstance(refusal, Beyond)
                device.begin((("bring", FULL[:60]),))
                patch = (("bring", FULL[:60]),)
            while device.edition() is None:
                device.go(chance.randrange(90))
                device.cut()
                device.wake()
            held = done(patch, held)
            self.assertEqual(device.edition(), held)


if __name__ == "__main__":
    unittest.main()
