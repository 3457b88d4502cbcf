"""lightest, brought: [8]."""

import copy
import itertools
import unittest

from patchover.carrying import brought, lightest
from patchover.errors import BadEdition, BadPatch, BadPieces, Beyond, TooMany
from patchover.hanging import hangs, order
from patchover.patches import cells, done, makes
from tests.samples import EDGES, FULL, copying_patches, refused_patches, small_patches


def around(many, length=1):
    """Tell a patch of so many pieces, each of which hangs ahead of the next one, the last of the first."""
    return tuple([("copy", (piece + 1) % many * length, length) for piece in range(many)])


def behind(ahead, patch):
    """Tell a patch that stands behind another one, moved so that its pieces hang as they did."""
    start = makes(ahead)
    return ahead + tuple([
        ("copy", piece[1] + start, piece[2]) if piece[0] == "copy" else piece for piece in patch
    ])


def copies_of(patch):
    """Tell which pieces are copies."""
    return [at for at, piece in enumerate(patch) if piece[0] == "copy"]


def lightest_of_all(patch):
    """Tell what lightest must tell, of all lots of copies."""
    told = []
    copies = copies_of(patch)
    for many in range(len(copies) + 1):
        for lot in itertools.combinations(copies, many):
            if order(brought(patch, list(lot), FULL)) is not None:
                told.append((sum([patch[piece][2] for piece in lot]), list(lot)))
    return min(told)


class TestLightest(unittest.TestCase):
    def assert_lightest(self, patch, many, pieces):
        with self.subTest(patch=patch):
            self.assertEqual(lightest(patch), (many, pieces))
            self.assertIsNotNone(order(brought(patch, pieces, FULL)))

    def test_where_there_is_an_order(self):
        for patch in (
            (), (("copy", 0, 5),), (("copy", 1, 5),), (("bring", b"a"), ("run", 7, 9)),
            (("run", 7, 1), ("copy", 0, 1), ("copy", 1, 1)),
            (("copy", 1, 1), ("copy", 1, 1), ("copy", 0, 1)),
        ):
            self.assert_lightest(patch, 0, [])
        for piece in EDGES:
            self.assert_lightest((piece,), 0, [])

    def test_the_lighter_one_of_a_ring(self):
        self.assert_lightest((("copy", 3, 3), ("copy", 0, 2)), 2, [1])
        self.assert_lightest((("copy", 2, 2), ("copy", 0, 3)), 2, [0])
        self.assert_lightest((("copy", 3, 4), ("copy", 7, 3), ("copy", 0, 4)), 3, [1])

    def test_of_several_the_first(self):
        self.assert_lightest((("copy", 2, 2), ("copy", 0, 2)), 2, [0])
        self.assert_lightest(around(5), 1, [0])
        # The first of those of two bytes, not that of three.
        self.assert_lightest((("copy", 2, 3), ("copy", 5, 2), ("copy", 0, 2)), 2, [1])

    def test_one_that_is_in_several_rings(self):
        # 0 and 1, and 0 and 2, are rings: 0 alone, or both others.
        self.assert_lightest((("copy", 2, 2), ("copy", 0, 1), ("copy", 0, 1)), 2, [0])
        self.assert_lightest((("copy", 2, 2), ("copy", 0, 1), ("copy", 0, 2)), 2, [0])
        self.assert_lightest((("copy", 4, 3), ("run", 7, 1), ("copy", 0, 1), ("copy", 0, 1)), 2, [2, 3])

    def test_many_light_ones_weigh_less_than_a_heavy_one(self):
        patch = (("copy", 6, 6), *[("copy", 0, 1)] * 5)
        self.assert_lightest(patch, 5, [1, 2, 3, 4, 5])
        patch = (("copy", 6, 6), *[("copy", 0, 1)] * 6)
        self.assert_lightest(patch, 6, [0])
        patch = (*[("copy", 6, 1)] * 6, ("copy", 0, 6))
        self.assert_lightest(patch, 6, [0, 1, 2, 3, 4, 5])
        patch = (*[("copy", 6, 1)] * 6, ("copy", 0, 5))
        self.assert_lightest(patch, 5, [0, 1, 2, 3, 4])

    def test_idle_copies_are_not_brought(self):
        patch = (("copy", 0, 1), ("copy", 2, 2), ("copy", 0, 3), ("copy", 6, 1))
        self.assert_lightest(patch, 2, [1])

    def test_several_knots(self):
        two = (("copy", 3, 3), ("copy", 0, 2), ("run", 7, 1))
        self.assert_lightest(behind(two, two), 4, [1, 4])
        self.assert_lightest(behind(around(3), two), 3, [0, 4])
        # Knots whose pieces stand between one another.
        self.assert_lightest((("copy", 2, 1), ("copy", 3, 1), ("copy", 0, 1), ("copy", 1, 1)), 2, [0, 1])
        self.assert_lightest((("copy", 3, 2), ("copy", 5, 1), ("copy", 0, 2), ("copy", 2, 1)), 3, [0, 1])

    def test_of_all_lots(self):
        found = set()
        for patch in (*small_patches(2), *copying_patches(9, 500, 6, 3), *copying_patches(10, 100, 9, 4)):
            told = lightest(patch)
            self.assertEqual(told, lightest_of_all(patch), patch)
            found.add(len(told[1]))
        self.assertEqual(sorted(found)[:3], [0, 1, 2])

    def test_14_pieces_in_one_knot(self):
        self.assert_lightest(around(14), 1, [0])
        self.assert_lightest(around(14, 14), 14, [0])
        self.assert_lightest((("copy", 13, 13), *[("copy", 0, 1)] * 13), 13, [0])
        self.assert_lightest((("copy", 14, 14), *[("copy", 0, 1)] * 13), 13, list(range(1, 14)))

    def test_15_pieces_in_one_knot(self):
        for patch in (
            around(15), around(16), around(200), around(15, 13), (("copy", 14, 14), *[("copy", 0, 1)] * 14),
            behind(around(3), around(15)), behind(around(14), around(15)), behind(around(15), (("run", 7, 1),)),
        ):
            with self.subTest(patch=patch):
                with self.assertRaises(TooMany):
                    lightest(patch)

    def test_more_than_14_pieces_but_not_in_one_knot(self):
        patch = ()
        for _ in range(14):
            patch = behind(patch, around(14))
        self.assert_lightest(patch, 14, [14 * knot for knot in range(14)])
        # One that hangs ahead of a knot, and one of which a knot hangs ahead.
        self.assert_lightest((*around(14), ("copy", 0, 1)), 1, [0])
        self.assert_lightest((*around(13), ("copy", 14, 1), ("copy", 12, 2)), 2, [0, 13])
        self.assert_lightest((*around(13)[:12], ("copy", 13, 1), ("copy", 0, 1), ("run", 7, 1)), 1, [0])
        # A long turn without a ring.
        self.assert_lightest(tuple([*[("copy", cell, 1) for cell in range(1, 200)], ("run", 7, 1)]), 0, [])
        # Idle ones between are in no knot.
        patch = tuple([("copy", cell, 1) for cell in range(180)])
        self.assert_lightest((*patch[:3], *[("copy", 4, 1), ("copy", 3, 1)], *patch[5:]), 1, [3])

    def test_a_knot_that_hangs_ahead_of_another_one(self):
        # A copy of the second one reads of the first one, too; back there leads nothing.
        patch = (*around(13), ("copy", 14, 1), ("copy", 12, 2))
        self.assertEqual(hangs(patch)[-3:], [(13, 14), (14, 12), (14, 13)])
        self.assert_lightest(patch, 2, [0, 13])

    def test_a_patch_that_cannot_be(self):
        for patch, piece in refused_patches():
            with self.subTest(patch=patch):
                with self.assertRaises(BadPatch) as caught:
                    lightest(patch)
                self.assertEqual(caught.exception.piece, piece)

    def test_a_bad_patch_comes_ahead_of_too_many(self):
        with self.assertRaises(BadPatch):
            lightest((*around(15), ("run", 7, 0)))

    def test_nothing_is_changed_and_what_is_told_may_be(self):
        patch = (("copy", 2, 2), ("copy", 0, 2))
        told = lightest(patch)
        self.assertIs(type(told), tuple)
        told[1].append(5)
        self.assertEqual(lightest(patch), (2, [0]))
        self.assertEqual(patch, (("copy", 2, 2), ("copy", 0, 2)))


class TestBrought(unittest.TestCase):
    def test_these_copies_are_brought(self):
        patch = (("copy", 2, 2), ("bring", b"!"), ("copy", 0, 3), ("run", 7, 2), ("copy", 4, 1))
        for pieces, told in (
            ([], patch),
            ([0], (("bring", b"cd"), *patch[1:])),
            ([2], (*patch[:2], ("bring", b"abc"), *patch[3:])),
            ([4], (*patch[:4], ("bring", b"e"))),
            ([0, 4], (("bring", b"cd"), *patch[1:4], ("bring", b"e"))),
            ([0, 2, 4], (("bring", b"cd"), ("bring", b"!"), ("bring", b"abc"), ("run", 7, 2), ("bring", b"e"))),
        ):
            with self.subTest(pieces=pieces):
                self.assertEqual(brought(patch, pieces, b"abcde"), told)

    def test_it_is_not_plain(self):
        patch = (("copy", 0, 3), ("copy", 3, 1), ("run", 97, 2))
        self.assertEqual(brought(patch, [0], b"aaaa"), (("bring", b"aaa"), ("copy", 3, 1), ("run", 97, 2)))
        self.assertEqual(brought(patch, [], b"aaaa"), patch)
        self.assertEqual(brought((), [], b"abc"), ())

    def test_idle_copies_may_be_brought_too(self):
        patch = (("copy", 0, 2), ("copy", 2, 1))
        self.assertEqual(brought(patch, [0], b"abc"), (("bring", b"ab"), ("copy", 2, 1)))
        self.assertEqual(brought(patch, [0, 1], b"abc"), (("bring", b"ab"), ("bring", b"c")))

    def test_at_the_edges(self):
        self.assertEqual(brought((("copy", 0, 200),), [0], FULL), (("bring", FULL),))
        self.assertEqual(brought((("copy", 199, 1),), [0], FULL), (("bring", b"\xc7"),))
        self.assertEqual(brought((("copy", 0, 1),), [0], b"\x00"), (("bring", b"\x00"),))

    def test_it_makes_what_the_patch_makes(self):
        for patch in copying_patches(11, 150, 5, 4):
            copies = copies_of(patch)
            for many in range(len(copies) + 1):
                for lot in itertools.combinations(copies, many):
                    told = brought(patch, list(lot), FULL)
                    self.assertEqual(done(told, FULL), done(patch, FULL))
                    self.assertEqual(copies_of(told), [piece for piece in copies if piece not in lot])
                    self.assertEqual(len(told), len(patch))
                    self.assertEqual(len(cells(told)), makes(patch))

    def test_lists_that_cannot_be(self):
        patch = (("copy", 2, 2), ("bring", b"!"), ("copy", 0, 3), ("run", 7, 2), ("copy", 4, 1))
        for pieces in (
            [1], [3], [0, 1], [1, 2], [0, 3, 4], [5], [0, 5], [-1], [-5], [-1, 0], [2, 0], [0, 0], [0, 2, 2],
            [0, 4, 2], [4, 2, 0], [True], [False],
        ):
            with self.subTest(pieces=pieces):
                ahead = list(pieces)
                with self.assertRaises(BadPieces):
                    brought(patch, pieces, b"abcde")
                self.assertEqual(pieces, ahead)
        with self.assertRaises(BadPieces):
            brought((), [0], b"abc")

    def test_an_edition_that_cannot_be(self):
        for patch, pieces in (((), []), ((("copy", 0, 1),), [0]), ((("run", 7, 1),), [])):
            with self.assertRaises(BadEdition):
                brought(patch, pieces, bytes(201))

    def test_any_copy_beyond_the_edition(self):
        patch = (("copy", 0, 2), ("run", 7, 9), ("copy", 3, 2), ("copy", 9, 1))
        for pieces in ([], [0], [2], [3], [0, 2, 3]):
            for edition, piece in ((b"", 0), (b"a", 0), (b"ab", 2), (b"abcd", 2), (b"abcde", 3), (b"abcdefghi", 3)):
                with self.subTest(pieces=pieces, edition=edition):
                    with self.assertRaises(Beyond) as caught:
                        brought(patch, pieces, edition)
                    self.assertEqual(caught.exception.piece, piece)
        self.assertEqual(brought(patch, [3], b"abcdefghij")[3], ("bring", b"j"))

    def test_which_refusal_comes_first(self):
        patch = (("copy", 0, 2), ("run", 7, 0))
        with self.assertRaises(BadPatch) as caught:
            brought(patch, [1], bytes(201))
        self.assertEqual(caught.exception.piece, 1)
        with self.assertRaises(BadPieces):
            brought(patch[:1], [1], bytes(201))
        with self.assertRaises(BadPieces):
            brought(patch[:1], [1], b"")
        with self.assertRaises(BadEdition):
            brought(patch[:1], [0], bytes(201))

    def test_a_patch_that_cannot_be(self):
        for patch, piece in refused_patches():
            with self.subTest(patch=patch):
                with self.assertRaises(BadPatch) as caught:
                    brought(patch, [], FULL)
                self.assertEqual(caught.exception.piece, piece)

    def test_nothing_is_changed_and_the_same_is_told_again(self):
        patch, pieces = (("copy", 2, 2), ("copy", 0, 2)), [1]
        ahead = copy.deepcopy((patch, pieces))
        told = brought(patch, pieces, b"abcd")
        self.assertEqual((patch, pieces), ahead)
        self.assertEqual(brought(patch, pieces, b"abcd"), told)
        pieces.append(2)
        self.assertEqual(told, (("copy", 2, 2), ("bring", b"ab")))


if __name__ == "__main__":
    unittest.main()
