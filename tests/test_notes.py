"""written, read: [22]; played, script_of: [23]."""

import unittest

from patchover.errors import BadPatch, BadText, Halted, PatchError
from patchover.notes import played, read, script_of, written
from patchover.patches import cells
from patchover.shops import Shop, again
from tests.pictures import shop_picture
from tests.samples import (
    BLOCKS, EDGES, EDITIONS, FULL, TURNED, copying_patches, refused_patches, shop_of_editions, small_patches,
)
from tests.test_deeds import DEEDS

# Rows that aren't so by their words, whichever text they stand in.
NO_PIECES = (
    "", " ", "copy", "copy 1", "copy 1 2 3", "copy 1 2 ", " copy 1 2", "copy  1 2", "copy 1  2", "copy a 2",
    "copy 1 b", "copy 01 2", "copy 1 02", "copy 00 2", "copy 1000 2", "copy 1 1000", "copy -1 2", "copy +1 2",
    "copy 1.0 2", "copy 1_0 2", "Copy 1 2", "COPY 1 2", "bring", "bring ", "bring 256", "bring 999", "bring 1 256 3",
    "bring 01", "bring 1000", "bring 1  2", "bring 1 ", "bring  1", "bring a", "bring -1", "bring 1,2", "run", "run 7",
    "run 7 1 1", "run 07 1", "run 7 01", "run 7 1 ", "run 7  1", "run 1000 1", "run x 1", "move 1 2", "1 2", "put a",
    "tidy", "copy,1,2", "bring 1 2x", "bring -", "copy ? 1",
)

NO_DEEDS = (
    "", " ", "put", "put ", "put  1", "put 1", "put A", "put a1", "put a 256", "put a 1000", "put a 99999", "put a 01",
    "put a 00", "put a -1", "put a b", "put a 1 ", "put a  1", "put  a 1", "put a ", " put a", "put a 1 256", "Put a",
    "put a 100000", "lean", "lean a", "lean a b c", "lean a 1", "lean 1 a", "lean a ", "lean  a b", "lean A b",
    "lean a  b",
    "whole", "whole a b", "whole 1", "whole ", "drop", "drop a b", "drop a ", "drop 0", "tidy a", "tidy ", " tidy",
    "tidy 0", "give", "give a b", "give 0", "give a 0", "send", "send 0", "send a", "send a 0", "send 0 a b",
    "send 00 a",
    "send 01 a", "send 100000 a", "send -1 a", "send 0 A", "send 0  a", "go", "go 0", "go 0 1 2", "go a 1", "go 0 a",
    "go 0 01", "go 0 100000", "go 0 -1", "go 0 1 ", "go 00 1", "cut", "cut a", "cut 0 0", "cut 00", "cut 100000",
    "cut 0 ",
    "wake", "wake a", "wake 0 0", "wake 01", "wake ", "back 1", "back ", " back", "Back", "names", "deeds", "do tidy",
    "copy 1 2", "0", "a", "put a,b", "give a-b", "give a_b", "tidy,", "go 0 1.0", "go 0 1_0", "go 0 +1",
)

SCRIPT = """put ab 1 2 3 4 5
put cd 2 3 4 5 255
put e
lean cd ab
give ab
send 0 cd
go 0 4
cut 0
wake 0
back
back
go 0 10000
tidy
whole cd
back
drop e"""


def deep_picture(shop):
    """Tell all that a shop tells, deeds too."""
    return shop_picture(shop), shop.deeds()


class TestWritten(unittest.TestCase):
    def test_told(self):
        for patch, text in (
            ((), ""), ((("copy", 5, 10),), "copy 5 10"), ((("bring", b"\x01\xff\x00"),), "bring 1 255 0"),
            ((("run", 7, 12),), "run 7 12"), ((("copy", 0, 200),), "copy 0 200"), ((("run", 0, 1),), "run 0 1"),
            ((("copy", 199, 1), ("bring", b"a"), ("run", 255, 100)), "copy 199 1\nbring 97\nrun 255 100"),
            ((("bring", FULL),), "bring " + " ".join([str(byte) for byte in range(200)])),
        ):
            with self.subTest(patch=patch):
                self.assertEqual(written(patch), text)
                self.assertEqual(read(text), patch)

    def test_what_is_written_is_read_to_the_same(self):
        for patch in (*small_patches(2), *copying_patches(95, 100, 9, 20), *[(piece,) for piece in EDGES]):
            told = read(written(patch))
            self.assertEqual(told, patch)
            self.assertIs(type(told), tuple)
            self.assertEqual(cells(told), cells(patch))

    def test_a_patch_that_cannot_be(self):
        for patch, piece in refused_patches():
            with self.assertRaises(BadPatch) as caught:
                written(patch)
            self.assertEqual(caught.exception.piece, piece)


class TestRead(unittest.TestCase):
    def assert_bad(self, text, row):
        with self.subTest(text=text):
            with self.assertRaises(BadText) as caught:
                read(text)
            self.assertEqual(caught.exception.row, row)

    def test_rows_that_are_not_so(self):
        good = ["copy 0 1", "bring 5", "run 7 12"]
        for bad in NO_PIECES:
            if bad:
                self.assert_bad(bad, 0)
            for row in range(4):
                self.assert_bad("\n".join([*good[:row], bad, *good[row:]]), row)

    def test_line_ends(self):
        self.assertEqual(read(""), ())
        for text, row in (
            ("\n", 0), ("\n\n", 0), ("copy 0 1\n", 1), ("\ncopy 0 1", 0), ("copy 0 1\n\nrun 7 1", 1),
            ("run 7 1\n\n", 1),
        ):
            self.assert_bad(text, row)

    def test_the_first_one(self):
        self.assert_bad("copy 0 1\nmove\nrun 7\n", 1)

    def test_then_patches_that_cannot_be(self):
        for text, piece in (
            ("copy 0 0", 0), ("copy 200 1", 0), ("copy 999 999", 0), ("run 256 1", 0), ("run 999 1", 0), ("run 7 0", 0),
            ("run 7 201", 0), ("copy 1 200", 0), ("bring 1\ncopy 0 0\nrun 7 0", 1), ("copy 0 200\nbring 0", 1),
            ("bring" + " 0" * 201, 0), ("bring" + " 1" * 200 + "\nrun 0 1", 1),
        ):
            with self.subTest(text=text):
                with self.assertRaises(BadPatch) as caught:
                    read(text)
                self.assertEqual(caught.exception.piece, piece)

    def test_a_row_comes_ahead_of_a_piece(self):
        self.assert_bad("copy 0 0\nrun 7 0\ncopy 1", 2)

    def test_many_rows(self):
        text = "\n".join(["bring 5"] * 200)
        self.assertEqual(read(text), (("bring", b"\x05"),) * 200)
        with self.assertRaises(BadPatch) as caught:
            read(text + "\nbring 5")
        self.assertEqual(caught.exception.piece, 200)


class TestPlayed(unittest.TestCase):
    def assert_bad(self, shop, text, row):
        ahead = deep_picture(shop)
        with self.subTest(text=text):
            with self.assertRaises(BadText) as caught:
                played(shop, text)
            self.assertEqual(caught.exception.row, row)
            self.assertEqual(deep_picture(shop), ahead)

    def test_what_each_told(self):
        shop = Shop()
        self.assertEqual(played(shop, SCRIPT), [
            None, None, None, None, 0, 6, 4, None, 1, True, True, 11, 0, None, True, None,
        ])
        self.assertEqual(shop.deeds(), [
            ("put", "ab", b"\x01\x02\x03\x04\x05"), ("put", "cd", b"\x02\x03\x04\x05\xff"), ("put", "e", b""),
            ("lean", "cd", "ab"), ("give", "ab"), ("send", 0, "cd"), ("go", 0, 4), ("go", 0, 10000), ("tidy",),
            ("drop", "e"),
        ])
        self.assertEqual(shop.bytes_of(0), b"\x02\x03\x04\x05\xff")

    def test_the_empty_text(self):
        shop = shop_of_editions(EDITIONS)
        ahead = deep_picture(shop)
        self.assertEqual(played(shop, ""), [])
        self.assertEqual(deep_picture(shop), ahead)

    def test_back(self):
        shop = shop_of_editions({"a": b"x", "b": b"y"})
        self.assertEqual(played(shop, "back\nback\nback\nput c 1\nback\nback"), [True, True, False, None, True, False])
        self.assertEqual(deep_picture(shop), deep_picture(Shop()))

    def test_put_with_and_without_bytes(self):
        shop = Shop()
        played(shop, "put a\nput b 0\nput c 255 0 255\nput defghijk" + " 7" * 200)
        self.assertEqual([shop.edition(name) for name in shop.names()], [
            b"", b"\x00", b"\xff\x00\xff", bytes([7] * 200),
        ])

    def test_rows_that_are_not_so_ahead_of_all_deeds(self):
        good = ["put x 1 2", "give x", "go 0 15"]
        for bad in NO_DEEDS:
            if bad:
                self.assert_bad(Shop(), bad, 0)
            for row in range(4):
                self.assert_bad(Shop(), "\n".join([*good[:row], bad, *good[row:]]), row)
        shop = shop_of_editions(EDITIONS)
        self.assert_bad(shop, "drop a\nback\nback\nput A\ndrop x", 3)

    def test_line_ends(self):
        for text, row in (("\n", 0), ("tidy\n", 1), ("\ntidy", 0), ("tidy\n\ntidy", 1)):
            self.assert_bad(Shop(), text, row)

    def test_a_hundred_rows(self):
        shop = Shop()
        self.assertEqual(played(shop, "\n".join(["tidy"] * 100)), [0] * 100)
        self.assertEqual(len(shop.deeds()), 100)
        for last in ("tidy", "", "none", "back", "give x"):
            self.assert_bad(shop, "\n".join([*["back"] * 100, last]), 100)
        self.assert_bad(shop, "\n".join(["tidy"] * 300), 100)
        self.assert_bad(shop, "\n".join(["tidy"] * 100) + "\n", 100)
        # The first row that isn't so comes ahead of the 101st.
        self.assert_bad(shop, "\n".join([*["tidy"] * 99, "none", "tidy", "none"]), 99)
        self.assert_bad(shop, "\n".join([*["tidy"] * 50, "none", *["tidy"] * 50]), 50)

    def test_a_row_that_is_refused(self):
        for row, bad in (
            (0, "lean ab cd"), (1, "put ab 5"), (1, "put abcdefghi"), (1, "put zz" + " 1" * 201), (2, "give zz"),
            (3, "lean ab ab"), (4, "drop zz"), (5, "drop ab"), (5, "send 0 abcdefghijk"), (5, "send 1 ab"),
            (6, "go 0 10001"),
            (6, "go 4 1"), (6, "go 99999 1"), (6, "wake 0"), (8, "cut 0"), (8, "go 0 0"), (9, "wake 0"), (3, "whole z"),
        ):
            with self.subTest(row=row, bad=bad):
                rows = SCRIPT.split("\n")
                shop, ahead = Shop(), Shop()
                told = played(ahead, "\n".join(rows[:row]))
                with self.assertRaises(Halted) as caught:
                    played(shop, "\n".join([*rows[:row], bad, *rows[row:]]))
                self.assertEqual(caught.exception.row, row)
                # Those ahead of it stand, and no other.
                self.assertEqual(deep_picture(shop), deep_picture(ahead))
                self.assertEqual(len(told), row)

    def test_too_many(self):
        shop = shop_of_editions({"a": BLOCKS, "b": TURNED})
        with self.assertRaises(Halted) as caught:
            played(shop, "tidy\ngive a\nsend 0 b")
        self.assertEqual(caught.exception.row, 2)

    def test_the_first_refused_one(self):
        with self.assertRaises(Halted) as caught:
            played(Shop(), "tidy\nback\nback\ngive a\ndrop a")
        self.assertEqual(caught.exception.row, 3)


class TestScriptOf(unittest.TestCase):
    def test_told(self):
        shop = Shop()
        self.assertEqual(script_of(shop), "")
        played(shop, SCRIPT)
        self.assertEqual(script_of(shop), "\n".join([
            "put ab 1 2 3 4 5", "put cd 2 3 4 5 255", "put e", "lean cd ab", "give ab", "send 0 cd", "go 0 4",
            "go 0 10000", "tidy", "drop e",
        ]))

    def test_each_word(self):
        self.assertEqual(script_of(again([deed for deed, _ in DEEDS])), "\n".join([
            "put a 97 98 99 100 101 102", "put b 98 99 100 101 102 103", "lean b a", "tidy", "whole b", "give a",
            "send 0 b", "go 0 4", "cut 0", "wake 0", "put c", "drop c", "tidy", "send 0 a", "go 0 0", "go 0 10000",
        ]))

    def test_it_is_played_to_the_same(self):
        for deeds in ([deed for deed, _ in DEEDS], []):
            shop = again(deeds)
            other = Shop()
            played(other, script_of(shop))
            self.assertEqual(deep_picture(other), deep_picture(shop))
            self.assertEqual(script_of(other), script_of(shop))

    def test_what_was_taken_back_or_refused_is_not_told(self):
        shop = shop_of_editions({"a": b"x"})
        shop.put("b", b"y")
        shop.back()
        with self.assertRaises(PatchError):
            shop.drop("b")
        self.assertEqual(script_of(shop), "put a 120")
        shop.back()
        shop.back()
        self.assertEqual(script_of(shop), "")

    def test_more_than_a_hundred_rows(self):
        shop = Shop()
        for _ in range(150):
            shop.tidy()
        self.assertEqual(script_of(shop), "\n".join(["tidy"] * 150))


if __name__ == "__main__":
    unittest.main()
