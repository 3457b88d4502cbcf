"""done, needs, makes, cells, plain, joined: [1] to [4]."""

import copy
import itertools
import unittest

from patchover.errors import BadCount, BadEdition, BadMeet, BadPatch, Beyond
from patchover.patches import cells, done, joined, makes, needs, plain
from tests.samples import BEYOND_EDGES, EDGES, FULL, small_patches

# Each function that is handed a patch, with an edition that is long enough, if it wants one.
WAYS = {
    "done": lambda patch: done(patch, FULL),
    "needs": needs,
    "makes": makes,
    "cells": cells,
    "plain": plain,
    "joined alone": lambda patch: joined([patch]),
    "joined first": lambda patch: joined([patch, ()]),
    "joined last": lambda patch: joined([(("copy", 0, 200),), patch]),
}


class TestPatches(unittest.TestCase):
    def test_a_patch_of_no_pieces(self):
        self.assertEqual(done((), b"ab"), b"")
        self.assertEqual(done((), b""), b"")
        self.assertEqual(needs(()), 0)
        self.assertEqual(makes(()), 0)
        self.assertEqual(cells(()), [])
        self.assertEqual(plain(()), ())
        self.assertEqual(joined([()]), ())

    def test_pieces_at_the_edges_can_be(self):
        for piece in EDGES:
            for name, way in WAYS.items():
                with self.subTest(name, piece=piece):
                    way((piece,))

    def test_pieces_beyond_the_edges_cannot_be(self):
        for piece in BEYOND_EDGES:
            for name, way in WAYS.items():
                with self.subTest(name, piece=piece):
                    self.assert_bad(way, (piece,), 0)

    def test_the_first_piece_that_cannot_be_is_told(self):
        good = (("copy", 0, 1), ("bring", b"ab"), ("run", 7, 3))
        for piece in BEYOND_EDGES:
            for at in range(4):
                patch = (*good[:at], piece, *good[at:], piece)
                for name, way in WAYS.items():
                    with self.subTest(name, patch=patch):
                        self.assert_bad(way, patch, at)

    def test_all_pieces_come_to_200_bytes(self):
        for patch in (
            (("copy", 0, 100), ("bring", b"x" * 60), ("run", 1, 40)),
            (("run", 1, 199), ("copy", 199, 1)),
            tuple([("bring", b"x")] * 200),
        ):
            for name, way in WAYS.items():
                with self.subTest(name, patch=patch):
                    way(patch)
            self.assertEqual(makes(patch), 200)
            self.assertEqual(len(done(patch, FULL)), 200)

    def test_all_pieces_come_to_more_than_200_bytes(self):
        for patch, at in (
            ((("copy", 0, 100), ("bring", b"x" * 60), ("run", 1, 41)), 2),
            ((("copy", 0, 100), ("run", 1, 60), ("bring", b"x" * 41)), 2),
            ((("bring", b"x" * 60), ("run", 1, 40), ("copy", 0, 101)), 2),
            ((("run", 1, 200), ("copy", 199, 1)), 1),
            ((("run", 1, 200), ("run", 1, 200), ("run", 1, 200)), 1),
            ((("run", 1, 199), ("copy", 0, 2), ("run", 1, 0)), 1),
            ((("run", 1, 199), ("copy", 0, 0), ("run", 1, 2)), 1),
            (tuple([("bring", b"x")] * 201), 200),
            (tuple([("bring", b"x")] * 400), 200),
        ):
            for name, way in WAYS.items():
                with self.subTest(name, patch=patch):
                    self.assert_bad(way, patch, at)

    def assert_bad(self, way, patch, at):
        ahead = copy.deepcopy(patch)
        with self.assertRaises(BadPatch) as caught:
            way(patch)
        self.assertEqual(caught.exception.piece, at)
        self.assertEqual(patch, ahead)


class TestDone(unittest.TestCase):
    def test_all_kinds_of_pieces(self):
        patch = (("copy", 2, 3), ("bring", b"xy"), ("run", 122, 4), ("copy", 0, 1))
        self.assertEqual(done(patch, b"abcdef"), b"cdexyzzzza")
        self.assertIs(type(done(patch, b"abcdef")), bytes)

    def test_each_kind_alone(self):
        self.assertEqual(done((("copy", 1, 2),), b"abcd"), b"bc")
        self.assertEqual(done((("bring", b"\x00\xff"),), b""), b"\x00\xff")
        self.assertEqual(done((("run", 0, 2), ("run", 255, 1)), b""), b"\x00\x00\xff")

    def test_copies_may_overlap_and_stand_in_any_turn(self):
        self.assertEqual(done((("copy", 3, 2), ("copy", 0, 4), ("copy", 3, 1)), b"abcde"), b"deabcdd")

    def test_editions_at_the_edges(self):
        self.assertEqual(done((("run", 7, 2),), b""), b"\x07\x07")
        self.assertEqual(done((("copy", 0, 200),), FULL), FULL)
        self.assertEqual(done((("copy", 199, 1),), FULL), b"\xc7")

    def test_an_edition_that_is_too_long(self):
        for edition in (bytes(201), bytes(1000)):
            for patch in ((), (("copy", 0, 1),), (("run", 7, 2),)):
                with self.subTest(patch=patch, many=len(edition)):
                    with self.assertRaises(BadEdition):
                        done(patch, edition)

    def test_just_long_enough(self):
        self.assertEqual(done((("copy", 2, 3),), b"abcde"), b"cde")
        self.assertEqual(done((("copy", 0, 1),), b"a"), b"a")

    def test_a_byte_too_short(self):
        for patch, edition, at in (
            ((("copy", 2, 3),), b"abcd", 0),
            ((("copy", 0, 1),), b"", 0),
            ((("copy", 199, 1),), FULL[:199], 0),
            ((("copy", 0, 200),), FULL[:199], 0),
            ((("copy", 0, 4), ("run", 1, 3), ("copy", 2, 3), ("copy", 4, 1)), b"abcd", 2),
            ((("copy", 0, 4), ("bring", b"xy"), ("copy", 5, 1), ("copy", 0, 9)), b"abcd", 2),
            ((("run", 200, 9), ("copy", 0, 5), ("copy", 0, 6)), b"abcde", 2),
        ):
            with self.subTest(patch=patch):
                with self.assertRaises(Beyond) as caught:
                    done(patch, edition)
                self.assertEqual(caught.exception.piece, at)

    def test_a_run_of_a_great_byte_is_not_taken_for_a_copy(self):
        self.assertEqual(done((("run", 255, 3), ("bring", b"\xfe")), b"a"), b"\xff\xff\xff\xfe")

    def test_which_refusal_comes_first(self):
        with self.assertRaises(BadPatch):
            done((("copy", 0, 5), ("run", 7, 0)), bytes(201))
        with self.assertRaises(BadPatch) as caught:
            done((("copy", 0, 5), ("run", 7, 0)), b"abcd")
        self.assertEqual(caught.exception.piece, 1)
        with self.assertRaises(BadEdition):
            done((("copy", 0, 5),), bytes(201))

    def test_by_cells(self):
        for patch in small_patches(3):
            new = [FULL[worth] if word == "old" else worth for word, worth in cells(patch)]
            self.assertEqual(done(patch, FULL), bytes(new))


class TestNeedsMakesCells(unittest.TestCase):
    def test_needs(self):
        self.assertEqual(needs((("copy", 2, 3),)), 5)
        self.assertEqual(needs((("copy", 2, 3), ("copy", 7, 1), ("copy", 0, 4))), 8)
        self.assertEqual(needs((("run", 200, 150), ("bring", b"\xff" * 20))), 0)
        self.assertEqual(needs((("run", 200, 150), ("copy", 0, 1), ("bring", b"\xff" * 20))), 1)
        self.assertEqual(needs((("copy", 199, 1),)), 200)
        self.assertEqual(needs((("copy", 0, 200),)), 200)

    def test_makes(self):
        self.assertEqual(makes((("copy", 2, 3),)), 3)
        self.assertEqual(makes((("bring", b"abcd"),)), 4)
        self.assertEqual(makes((("run", 9, 5),)), 5)
        self.assertEqual(makes((("copy", 2, 3), ("bring", b"abcd"), ("run", 9, 5), ("copy", 2, 3))), 15)

    def test_cells(self):
        patch = (("copy", 3, 2), ("bring", b"\x07\xff"), ("run", 9, 2), ("copy", 0, 1))
        self.assertEqual(cells(patch), [
            ("old", 3), ("old", 4), ("new", 7), ("new", 255), ("new", 9), ("new", 9), ("old", 0),
        ])

    def test_needs_and_makes_by_cells(self):
        for patch in small_patches(3):
            told = cells(patch)
            self.assertEqual(makes(patch), len(told))
            self.assertEqual(needs(patch), max([worth + 1 for word, worth in told if word == "old"], default=0))

    def test_just_what_it_needs_is_long_enough(self):
        for patch in small_patches(2):
            least = needs(patch)
            self.assertEqual(len(done(patch, FULL[:least])), makes(patch))
            if least:
                with self.assertRaises(Beyond):
                    done(patch, FULL[:least - 1])

    def test_what_is_told_may_be_changed(self):
        patch = (("run", 9, 2), ("copy", 0, 1))
        told = cells(patch)
        told[0] = ("old", 5)
        told.append(("new", 1))
        self.assertEqual(cells(patch), [("new", 9), ("new", 9), ("old", 0)])
        self.assertEqual(patch, (("run", 9, 2), ("copy", 0, 1)))


class TestPlain(unittest.TestCase):
    def assert_plain(self, patch, told):
        with self.subTest(patch=patch):
            self.assertEqual(plain(patch), told)
            self.assertEqual(plain(told), told)

    def test_copies_that_go_on_are_one(self):
        self.assert_plain((("copy", 2, 3), ("copy", 5, 1)), (("copy", 2, 4),))
        self.assert_plain((("copy", 0, 1), ("copy", 1, 1), ("copy", 2, 198)), (("copy", 0, 200),))

    def test_copies_that_do_not_go_on_stay(self):
        for patch in (
            (("copy", 2, 3), ("copy", 4, 1)),
            (("copy", 2, 3), ("copy", 6, 1)),
            (("copy", 2, 3), ("copy", 2, 3)),
            (("copy", 5, 2), ("copy", 3, 2)),
            (("copy", 7, 1), ("copy", 7, 1), ("copy", 7, 1)),
            (("copy", 2, 3), ("bring", b"a"), ("copy", 5, 1)),
        ):
            self.assert_plain(patch, patch)

    def test_bytes_beside_one_another(self):
        self.assert_plain((("run", 7, 1),), (("bring", b"\x07"),))
        self.assert_plain((("run", 7, 2),), (("bring", b"\x07\x07"),))
        self.assert_plain((("bring", b"\x07\x07"),), (("bring", b"\x07\x07"),))
        self.assert_plain((("run", 7, 3),), (("run", 7, 3),))
        self.assert_plain((("bring", b"\x07\x07\x07"),), (("run", 7, 3),))
        self.assert_plain((("bring", b"\x07" * 200),), (("run", 7, 200),))
        self.assert_plain((("run", 7, 1), ("bring", b"\x07"), ("run", 7, 1)), (("run", 7, 3),))
        self.assert_plain((("run", 7, 3), ("run", 8, 3)), (("run", 7, 3), ("run", 8, 3)))

    def test_brought_bytes_are_one(self):
        self.assert_plain((("bring", b"ab"), ("bring", b"cd"), ("bring", b"e")), (("bring", b"abcde"),))
        self.assert_plain((("run", 97, 2), ("run", 98, 2), ("run", 97, 1)), (("bring", b"aabba"),))
        some = b"ab" * 100
        self.assert_plain(tuple([("bring", bytes([byte])) for byte in some]), (("bring", some),))

    def test_runs_that_meet_bytes_brought(self):
        self.assert_plain((("bring", b"ab"), ("run", 98, 2)), (("bring", b"a"), ("run", 98, 3)))
        self.assert_plain((("run", 98, 2), ("bring", b"bc")), (("run", 98, 3), ("bring", b"c")))
        self.assert_plain((("run", 98, 3), ("bring", b"bbc")), (("run", 98, 5), ("bring", b"c")))
        self.assert_plain(
            (("bring", b"abbbcc"), ("run", 99, 1), ("bring", b"cddee")),
            (("bring", b"a"), ("run", 98, 3), ("run", 99, 4), ("bring", b"ddee")),
        )
        self.assert_plain((("bring", b"abbb"),), (("bring", b"a"), ("run", 98, 3)))

    def test_copies_part_what_is_brought(self):
        self.assert_plain(
            (("run", 7, 2), ("copy", 0, 1), ("run", 7, 2), ("copy", 1, 1)),
            (("bring", b"\x07\x07"), ("copy", 0, 1), ("bring", b"\x07\x07"), ("copy", 1, 1)),
        )

    def test_copied_numbers_are_not_bytes(self):
        for patch in (
            (("copy", 7, 1), ("bring", b"\x08"), ("copy", 8, 1), ("bring", b"\x09")),
            (("bring", b"\x07"), ("copy", 7, 1), ("bring", b"\x07"), ("copy", 7, 1)),
            (("run", 7, 3), ("copy", 7, 1), ("copy", 7, 1), ("run", 7, 3)),
        ):
            self.assert_plain(patch, patch)

    def test_alike_ones_have_one_plain_one(self):
        plain_ones = {}
        for patch in small_patches(3):
            told = plain(patch)
            self.assertEqual(cells(told), cells(patch))
            self.assertEqual(plain_ones.setdefault(tuple(cells(patch)), told), told)
            self.assertEqual(plain(told), told)

    def test_tells_tuples_of_tuples(self):
        told = plain((("copy", 2, 3), ("bring", b"abbb")))
        self.assertIs(type(told), tuple)
        self.assertEqual([type(piece) for piece in told], [tuple, tuple, tuple])
        self.assertIs(type(told[1][1]), bytes)


class TestJoined(unittest.TestCase):
    def test_of_one_it_is_the_plain_one(self):
        for patch in small_patches(3):
            self.assertEqual(joined([patch]), plain(patch))

    def test_of_two(self):
        first = (("copy", 4, 3), ("bring", b"xy"), ("run", 7, 3))
        second = (("copy", 1, 3), ("bring", b"!"), ("copy", 4, 3), ("copy", 0, 1))
        self.assertEqual(
            joined([first, second]),
            (("copy", 5, 2), ("bring", b"x!y\x07\x07"), ("copy", 4, 1)),
        )

    def test_of_several(self):
        patches = [
            (("copy", 3, 3), ("copy", 0, 3)),
            (("copy", 3, 3), ("copy", 0, 3), ("run", 9, 2)),
            (("bring", b"\x09"), ("copy", 6, 2), ("copy", 0, 6)),
            (("copy", 0, 9),),
        ]
        self.assertEqual(joined(patches), (("run", 9, 3), ("copy", 0, 6)))

    def test_bytes_that_come_together_are_plain(self):
        first = (("run", 7, 1), ("copy", 0, 1), ("run", 7, 2))
        self.assertEqual(joined([first, (("copy", 2, 2), ("copy", 0, 1))]), (("run", 7, 3),))

    def test_what_is_not_used_is_not_needed(self):
        patches = [(("copy", 0, 1), ("copy", 50, 2)), (("copy", 0, 1),)]
        self.assertEqual(joined(patches), (("copy", 0, 1),))
        self.assertEqual(done(joined(patches), b"a"), b"a")

    def test_with_patches_of_no_pieces(self):
        self.assertEqual(joined([(("copy", 0, 5),), ()]), ())
        self.assertEqual(joined([(), (("run", 7, 3),)]), (("run", 7, 3),))
        self.assertEqual(joined([(), (), ()]), ())

    def test_makes_what_they_make(self):
        patches = small_patches(2)
        for first, second in itertools.product(patches, patches):
            if needs(second) > makes(first):
                with self.assertRaises(BadMeet) as caught:
                    joined([first, second])
                self.assertEqual(caught.exception.number, 1)
                continue
            told = joined([first, second])
            self.assertEqual(done(told, FULL), done(second, done(first, FULL)))
            self.assertEqual(told, plain(told))
            self.assertLessEqual(needs(told), needs(first))

    def test_of_none(self):
        with self.assertRaises(BadCount):
            joined([])

    def test_patches_that_do_not_meet(self):
        for patches, number in (
            ([(), (("copy", 0, 1),)], 1),
            ([(("run", 1, 4),), (("copy", 0, 5),)], 1),
            ([(("run", 1, 4),), (("copy", 2, 2),), (("copy", 0, 3),), (("copy", 0, 9),)], 2),
            ([(("copy", 0, 200),), (("copy", 0, 199),), (("copy", 0, 199),), (("copy", 199, 1),)], 3),
            ([(("run", 1, 3),), (("copy", 2, 1), ("run", 1, 3)), (("copy", 4, 1),)], 2),
        ):
            with self.subTest(patches=patches):
                ahead = copy.deepcopy(patches)
                with self.assertRaises(BadMeet) as caught:
                    joined(patches)
                self.assertEqual(caught.exception.number, number)
                self.assertEqual(patches, ahead)

    def test_just_as_many_do_meet(self):
        patches = [(("run", 1, 4), ("copy", 9, 1)), (("copy", 4, 1),), (("copy", 0, 1),)]
        self.assertEqual(joined(patches), (("copy", 9, 1),))
        self.assertEqual(joined([(("copy", 0, 200),), (("copy", 199, 1),)]), (("copy", 199, 1),))

    def test_which_refusal_comes_first(self):
        unmet = [(("run", 1, 4),), (("copy", 0, 5),)]
        for patches, piece in (
            ([(("run", 1, 0),), *unmet], 0),
            ([*unmet, (("run", 1, 2), ("run", 1, 0))], 1),
            ([(("run", 1, 2), ("run", 1, 0)), (("run", 1, 0),)], 1),
        ):
            with self.subTest(patches=patches):
                with self.assertRaises(BadPatch) as caught:
                    joined(patches)
                self.assertEqual(caught.exception.piece, piece)


class TestNothingChanges(unittest.TestCase):
    def test_patches_stand_as_ahead_and_the_same_is_told_again(self):
        patch = (("copy", 2, 3), ("bring", b"abbb"), ("run", 98, 2), ("copy", 5, 2))
        ahead = copy.deepcopy(patch)
        for name, way in WAYS.items():
            with self.subTest(name):
                told = copy.deepcopy(way(patch))
                self.assertEqual(patch, ahead)
                self.assertEqual(way(patch), told)

    def test_the_list_of_patches_stands_as_ahead(self):
        patches = [(("copy", 0, 3),), (("copy", 1, 2), ("run", 7, 4))]
        ahead = copy.deepcopy(patches)
        told = joined(patches)
        self.assertEqual(patches, ahead)
        self.assertEqual(joined(patches), told)
        patches.pop()
        self.assertEqual(told, (("copy", 1, 2), ("run", 7, 4)))
        self.assertEqual(joined(patches), (("copy", 0, 3),))

    def test_the_same_is_told_behind_a_refusal(self):
        patch = (("copy", 2, 3),)
        told = done(patch, b"abcde")
        with self.assertRaises(Beyond):
            done(patch, b"abcd")
        self.assertEqual(patch, (("copy", 2, 3),))
        self.assertEqual(done(patch, b"abcde"), told)


if __name__ == "__main__":
    unittest.main()
