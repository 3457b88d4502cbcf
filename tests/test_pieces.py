"""bytes_of and numbers_of: [1] and [2]."""

import unittest

from patchover.errors import BadCount
from patchover.pieces import bytes_of, numbers_of


class TestBytesOf(unittest.TestCase):
    def test_tells_the_bytes(self):
        self.assertEqual(bytes_of([1, 2, 254]), b"\x01\x02\xfe")
        self.assertIs(type(bytes_of([1])), bytes)

    def test_edges(self):
        self.assertEqual(bytes_of([]), b"")
        self.assertEqual(bytes_of([0]), b"\x00")
        self.assertEqual(bytes_of([255]), b"\xff")
        self.assertEqual(bytes_of(list(range(256))), bytes(range(256)))

    def test_has_no_limit_of_length(self):
        self.assertEqual(bytes_of([3] * 500), b"\x03" * 500)

    def test_refuses_what_is_no_byte(self):
        for numbers in ([-1], [256], [1000000], [0, 255, 256], [-1, 0], [0, -1, 0], [True], [3, False]):
            with self.subTest(numbers=numbers):
                ahead = list(numbers)
                with self.assertRaises(BadCount):
                    bytes_of(numbers)
                self.assertEqual(numbers, ahead)

    def test_changes_nothing_and_tells_the_same_again(self):
        numbers = [5, 0, 255]
        told = bytes_of(numbers)
        self.assertEqual(numbers, [5, 0, 255])
        self.assertEqual(bytes_of(numbers), told)
        numbers[0] = 6
        self.assertEqual(told, b"\x05\x00\xff")


class TestNumbersOf(unittest.TestCase):
    def test_tells_the_numbers(self):
        self.assertEqual(numbers_of(b"\x01\x02\xfe"), [1, 2, 254])
        self.assertIs(type(numbers_of(b"\x01")), list)

    def test_edges(self):
        self.assertEqual(numbers_of(b""), [])
        self.assertEqual(numbers_of(b"\x00\xff"), [0, 255])
        self.assertEqual(numbers_of(b"\x07" * 500), [7] * 500)

    def test_both_ways(self):
        for number in range(256):
            self.assertEqual(numbers_of(bytes_of([number, 0])), [number, 0])

    def test_what_is_told_may_be_changed(self):
        some = b"\x01\x02"
        told = numbers_of(some)
        told.append(9)
        told[0] = 8
        self.assertEqual(numbers_of(some), [1, 2])
        self.assertEqual(some, b"\x01\x02")


if __name__ == "__main__":
    unittest.main()
