"""coded, decoded, size: [5]."""

import copy
import itertools
import random
import unittest

from patchover.coding import coded, decoded, size
from patchover.errors import BadCode, BadPatch
from tests.samples import EDGES, FULL, copying_patches, refused_patches, small_patches

# Patches with the bytes of their codes, but the check.
CODES = (
    ((), [0]),
    ((("copy", 0, 1),), [1, 4, 0]),
    ((("copy", 2, 3), ("bring", b"!"), ("run", 46, 3)), [3, 12, 2, 5, 33, 14, 46]),
    # Numbers of one byte and of two, at the edge between them.
    ((("copy", 127, 31),), [1, 124, 127]),
    ((("copy", 128, 31),), [1, 124, 128, 1]),
    ((("copy", 0, 32),), [1, 128, 1, 0]),
    ((("copy", 168, 32),), [1, 128, 1, 168, 1]),
    ((("copy", 199, 1),), [1, 4, 199, 1]),
    ((("copy", 0, 200),), [1, 160, 6, 0]),
    ((("bring", b"x" * 31),), [1, 125, *b"x" * 31]),
    ((("bring", b"x" * 32),), [1, 129, 1, *b"x" * 32]),
    ((("bring", FULL),), [1, 161, 6, *FULL]),
    ((("run", 9, 31),), [1, 126, 9]),
    ((("run", 9, 32),), [1, 130, 1, 9]),
    ((("run", 255, 200),), [1, 162, 6, 255]),
    # The byte of a run is a byte, whatever it is, and so are those that are brought.
    ((("run", 128, 1), ("run", 0, 2)), [2, 6, 128, 10, 0]),
    ((("bring", b"\x80\x00\xff"),), [1, 13, 128, 0, 255]),
    ((("run", 1, 1),) * 127, [127, *[6, 1] * 127]),
    ((("run", 1, 1),) * 128, [128, 1, *[6, 1] * 128]),
    ((("bring", b"x"),) * 200, [200, 1, *[5, 120] * 200]),
)


def with_check(numbers):
    """Tell bytes with the check that goes with them."""
    return bytes([*numbers, sum(numbers) % 251])


def good_patches():
    """Tell many patches."""
    return [
        *[patch for patch, _ in CODES], *[(piece,) for piece in EDGES], *small_patches(3),
        *copying_patches(1, 200, 12, 12),
    ]


def answer(some):
    """Tell the place of the first byte that can't be, None, if there's none."""
    try:
        decoded(some)
    except BadCode as refusal:
        return refusal.place
    except BadPatch:
        return None
    return None


class TestCoded(unittest.TestCase):
    def test_codes(self):
        for patch, numbers in CODES:
            with self.subTest(patch=patch):
                self.assertEqual(coded(patch), with_check(numbers))
                self.assertIs(type(coded(patch)), bytes)

    def test_the_check_is_a_rest_by_251(self):
        self.assertEqual(coded(()), b"\x00\x00")
        for byte, check in ((0, 7), (242, 249), (243, 250), (244, 0), (245, 1), (255, 11)):
            self.assertEqual(coded((("run", byte, 1),)), bytes([1, 6, byte, check]))
        self.assertEqual(coded((("bring", b"\xff" * 3),))[-1], (1 + 13 + 3 * 255) % 251)

    def test_a_patch_that_cannot_be(self):
        for patch, piece in refused_patches():
            for way in (coded, size):
                with self.subTest(patch=patch):
                    with self.assertRaises(BadPatch) as caught:
                        way(patch)
                    self.assertEqual(caught.exception.piece, piece)

    def test_nothing_is_changed_and_the_same_is_told_again(self):
        patch = (("copy", 2, 3), ("bring", b"ab"), ("run", 7, 3))
        ahead = copy.deepcopy(patch)
        told = coded(patch), size(patch)
        self.assertEqual(patch, ahead)
        self.assertEqual((coded(patch), size(patch)), told)


class TestSize(unittest.TestCase):
    def test_it_is_how_long_the_code_is(self):
        for patch, numbers in CODES:
            with self.subTest(patch=patch):
                self.assertEqual(size(patch), len(numbers) + 1)
        for patch in good_patches():
            self.assertEqual(size(patch), len(coded(patch)))


class TestDecoded(unittest.TestCase):
    def assert_place(self, numbers, place):
        with self.subTest(numbers=numbers):
            with self.assertRaises(BadCode) as caught:
                decoded(bytes(numbers))
            self.assertEqual(caught.exception.place, place)

    def test_codes(self):
        for patch, numbers in CODES:
            with self.subTest(patch=patch):
                self.assertEqual(decoded(with_check(numbers)), patch)

    def test_both_ways(self):
        for patch in good_patches():
            told = decoded(coded(patch))
            self.assertEqual(told, patch)
            self.assertIs(type(told), tuple)
            self.assertEqual([type(piece) for piece in told], [tuple] * len(patch))

    def test_cut_off_at_each_place(self):
        for patch, numbers in CODES:
            code = with_check(numbers)
            for many in range(len(code)):
                self.assert_place(code[:many], many)

    def test_the_second_byte_of_a_number(self):
        for second in (0, 128, 129, 255):
            self.assert_place([128, second, 0], 1)
            self.assert_place([1, 132, second, 0], 2)
            self.assert_place([1, 4, 200, second, 0], 3)
            # It's the last one that is there.
            self.assert_place([128, second], 1)
            self.assert_place([1, 129, second], 2)
            self.assert_place([1, 4, 128, second], 3)
        # No number begins so, not even the one of no bytes.
        self.assert_place([1, 128, 0, 0], 2)
        self.assert_place([1, 129, 0, 0], 2)
        self.assert_place([1, 130, 128, 0], 2)

    def test_the_last_second_byte_that_can_be(self):
        self.assert_place([128, 127], 2)
        self.assert_place([1, 128, 127], 3)
        self.assert_place([1, 4, 255, 127], 4)

    def test_a_rest_of_three(self):
        for first in range(3, 256, 4):
            for behind in ([], [0], [1], [1, 1], [128], [255, 255]):
                self.assert_place([1, first, *behind], 1)
                self.assert_place([2, 4, 0, first, *behind], 3)

    def test_no_bytes(self):
        for first in (0, 1, 2):
            for behind in ([], [0], [7, 10]):
                self.assert_place([1, first, *behind], 1)
                self.assert_place([3, 5, 77, first, *behind], 3)

    def test_the_check(self):
        for patch, numbers in CODES:
            right = sum(numbers) % 251
            for check in {0, 1, 250, 251, 255, (right + 1) % 251, right ^ 128, sum(numbers) % 256} - {right}:
                self.assert_place([*numbers, check], len(numbers))
                self.assert_place([*numbers, check, right], len(numbers))
        # The rest is never so great.
        self.assert_place([1, 6, 244, 251], 3)

    def test_a_byte_behind(self):
        for patch, numbers in CODES:
            code = with_check(numbers)
            for behind in ([0], [255], [1, 2, 3], list(code)):
                self.assert_place([*code, *behind], len(code))

    def test_of_no_bytes_at_all(self):
        self.assert_place([], 0)

    def test_more_pieces_than_come(self):
        self.assert_place([2, 4, 0], 3)
        self.assert_place([255, 127, 4, 0], 4)
        # What would be the check begins a piece.
        self.assert_place(with_check([2, 6, 0]), 4)
        self.assert_place(with_check([2, 6, 1]), 4)
        self.assert_place(with_check([1]), 1)

    def test_fewer_bytes_than_are_told(self):
        self.assert_place([1, 13, 1, 2], 4)
        self.assert_place([1, 13, 1, 2, 3], 5)
        self.assert_place([1, 253, 127, 1, 2], 5)

    def test_a_place_by_its_words(self):
        # A byte can't be, if nothing that begins with it can be read, and something can without it.
        chance = random.Random(2)
        found = set()
        for numbers in self.some_numbers(chance):
            place = answer(bytes(numbers))
            if place is None:
                continue
            found.add(place)
            ahead = numbers[:place]
            for tail in ([], [0], [1, 4], [128, 1, 0], numbers[place + 1:]):
                if place < len(numbers):
                    self.assertEqual(answer(bytes([*ahead, numbers[place], *tail])), place, numbers)
            self.assertIn(answer(bytes(ahead)), (place, None), numbers)
            if answer(bytes(ahead)) == place:
                others = [answer(bytes([*ahead, byte])) for byte in range(256)]
                self.assertTrue([other for other in others if other != place], numbers)
        self.assertGreater(len(found), 10)

    def some_numbers(self, chance):
        """Tell codes with a byte changed, and short lists of numbers at the edges."""
        edges = (0, 1, 3, 4, 5, 128, 255)
        told = [list(numbers) for many in range(4) for numbers in itertools.product(edges, repeat=many)]
        for patch in copying_patches(3, 150, 5, 6):
            code = list(coded(patch))
            code[chance.randrange(len(code))] = chance.randrange(256)
            told.append(code)
        return told

    def test_what_reads_so_but_cannot_be(self):
        for numbers, piece in (
            ([1, 4, 200, 1], 0),
            ([1, 8, 199, 1], 0),
            ([1, 160, 6, 1], 0),
            ([1, 164, 6, 0], 0),
            ([1, 252, 127, 255, 127], 0),
            ([1, 165, 6, *[7] * 201], 0),
            ([1, 166, 6, 7], 0),
            ([2, 162, 6, 7, 6, 7], 1),
            ([3, 4, 0, 4, 200, 1, 4, 201, 1], 1),
            ([201, 1, *[6, 7] * 201], 200),
            ([144, 3, *[6, 7] * 400], 200),
        ):
            with self.subTest(numbers=numbers):
                with self.assertRaises(BadPatch) as caught:
                    decoded(with_check(numbers))
                self.assertEqual(caught.exception.piece, piece)

    def test_a_bad_code_comes_ahead_of_a_bad_patch(self):
        code = with_check([1, 4, 200, 1])
        self.assert_place(code[:-1], 4)
        self.assert_place([*code[:-1], code[-1] + 1], 4)
        self.assert_place([*code, 0], 5)
        self.assert_place([2, 4, 200, 1, 3], 4)

    def test_nothing_is_changed_and_the_same_is_told_again(self):
        code = with_check([3, 12, 2, 5, 33, 14, 46])
        told = decoded(code)
        self.assert_place(code[:-1], 7)
        self.assertEqual(code, with_check([3, 12, 2, 5, 33, 14, 46]))
        self.assertEqual(decoded(code), told)


if __name__ == "__main__":
    unittest.main()
