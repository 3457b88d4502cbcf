"""histories, all_end: [13]."""

import copy
import itertools
import unittest

from patchover.cutting import all_end, histories
from patchover.errors import BadCount, BadEdition, BadPatch, Beyond, TooMany
from patchover.patches import done
from tests.samples import FULL, copying_patches, refused_patches
from tests.test_devices import EDITION, KNOT, PATCH, begun


class TestHistories(unittest.TestCase):
    def test_told(self):
        self.assertEqual(histories(EDITION, PATCH), [
            (0, 11), (0, 11), (0, 11), (1, 8), (1, 8), (1, 8), (2, 5), (2, 5), (2, 5), (2, 5), (2, 5), (0, 0),
        ])
        self.assertEqual(histories(b"", (("run", 7, 1),)), [(0, 3), (0, 3), (0, 3), (0, 0)])

    def test_without_steps(self):
        for edition, patch in ((b"", ()), (EDITION, ()), (EDITION, (("copy", 0, 6),))):
            self.assertEqual(histories(edition, patch), [(0, 0)])

    def test_of_200_bytes(self):
        told = histories(FULL, (("copy", 1, 199), ("run", 7, 1)))
        # A mark behind each step; it goes on from the last one that is whole.
        self.assertEqual(told, [*[(many // 3, 600 - many // 3 * 3) for many in range(600)], (0, 0)])

    def test_by_devices(self):
        for patch in copying_patches(41, 80, 6, 4):
            total = begun(FULL, patch).go(10000)
            told = []
            for many in range(total + 1):
                device = begun(FULL, patch)
                self.assertEqual(device.go(many), many)
                device.cut()
                mark = device.wake()
                told.append((mark, device.go(10000)))
                self.assertEqual(device.edition(), done(patch, FULL))
            self.assertEqual(histories(FULL, patch), told, patch)

    def test_refusals(self):
        with self.assertRaises(BadEdition):
            histories(bytes(201), (("run", 7, 0),))
        for edition, patch, refusal in (
            (EDITION, (("copy", 0, 7),), Beyond), (EDITION, KNOT, Beyond), (FULL, KNOT, TooMany),
            (EDITION, (("copy", 0, 7), ("run", 7, 0)), BadPatch),
        ):
            with self.assertRaises(refusal):
                histories(edition, patch)
        for patch, piece in refused_patches():
            with self.assertRaises(BadPatch) as caught:
                histories(FULL, patch)
            self.assertEqual(caught.exception.piece, piece)

    def test_what_is_told_may_be_changed(self):
        told = histories(EDITION, PATCH)
        kept = copy.deepcopy(told)
        told.clear()
        self.assertEqual(histories(EDITION, PATCH), kept)


class TestAllEnd(unittest.TestCase):
    def test_told(self):
        for cuts, writes in (
            ([], 11), ([0], 11), ([0, 0, 0], 11), ([1], 12), ([2], 13), ([3], 11), ([4], 12), ([5], 13), ([6], 11),
            ([10], 15), ([11], 11), ([12], 11), ([10000], 11), ([11, 5], 11), ([2, 2, 2], 17), ([4, 4, 4], 17),
            ([6, 4, 4, 4], 23),
        ):
            with self.subTest(cuts=cuts):
                self.assertEqual(all_end(EDITION, PATCH, cuts), (True, writes))

    def test_without_steps(self):
        for cuts in ([], [0], [5, 10000]):
            self.assertEqual(all_end(EDITION, (), cuts), (True, 0))

    def test_all_lists_of_two_cuts(self):
        for patch in copying_patches(42, 12, 4, 3):
            total = begun(FULL, patch).go(10000)
            told = histories(FULL, patch)
            for one, other in itertools.product(range(total + 1), repeat=2):
                ended, writes = all_end(FULL, patch, [one, other])
                self.assertIs(ended, True)
                needed = told[one][1]
                # Behind the first cut it's as far as one that was never cut, by as many writes as it needs not.
                rest = told[total - needed + min(other, needed)][1]
                self.assertEqual(writes, one + min(other, needed) + rest, (patch, one, other))

    def test_it_always_holds_the_new_edition(self):
        for at, patch in enumerate(copying_patches(43, 200, 8, 9)):
            cuts = [(at * 7 + turn * 5) % 23 for turn in range(at % 15)]
            self.assertIs(all_end(FULL, patch, cuts)[0], True)

    def test_refusals_in_turn(self):
        for edition, patch, cuts, refusal in (
            (bytes(201), (("run", 7, 0),), [-1], BadEdition),
            (EDITION, (("run", 7, 0),), [-1], BadPatch),
            (EDITION, (("copy", 0, 7),), [-1], Beyond),
            (FULL, KNOT, [-1], TooMany),
            (EDITION, PATCH, [-1], BadCount),
            (EDITION, PATCH, [10001], BadCount),
            (EDITION, PATCH, [5, 10000, True], BadCount),
            (EDITION, (), [10001], BadCount),
        ):
            with self.subTest(patch=patch, cuts=cuts):
                ahead = list(cuts)
                with self.assertRaises(refusal):
                    all_end(edition, patch, cuts)
                self.assertEqual(cuts, ahead)

    def test_a_patch_that_cannot_be(self):
        for patch, piece in refused_patches():
            with self.assertRaises(BadPatch) as caught:
                all_end(FULL, patch, [])
            self.assertEqual(caught.exception.piece, piece)


if __name__ == "__main__":
    unittest.main()
