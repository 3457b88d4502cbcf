"""least: [6]."""

import itertools
import random
import unittest

from patchover.coding import coded
from patchover.errors import BadEdition
from patchover.finding import least
from patchover.patches import done
from tests.samples import FULL


def pieces_for(old, some):
    """Tell all pieces that make these bytes of an old edition."""
    told = [("bring", some)]
    if some == some[:1] * len(some):
        told.append(("run", some[0], len(some)))
    for begin in range(len(old)):
        if old[begin:begin + len(some)] == some:
            told.append(("copy", begin, len(some)))
    return told


def all_patches(old, new):
    """Tell all patches that make the new edition of the old one."""
    if not new:
        return [()]
    return [
        (piece, *rest)
        for many in range(1, len(new) + 1)
        for piece in pieces_for(old, new[:many])
        for rest in all_patches(old, new[many:])
    ]


def shortest_patch(old, new):
    """Tell the first of the shortest patches, of all pieces that could be a next one."""
    # (how many bytes of code, patch) of what stands behind, from the end on.
    told = [(0, ())]
    for at in reversed(range(len(new))):
        ways = []
        for many in range(1, len(new) - at + 1):
            rest, behind = told[many - 1]
            for piece in pieces_for(old, new[at:at + many]):
                # A code has a byte ahead of its pieces, and one behind.
                ways.append((rest + len(coded((piece,))) - 2, (piece, *behind)))
        told.insert(0, min(ways))
    return told[0][1]


def editions(letters, most):
    """Tell all editions of at most so many of these letters."""
    return [bytes(some) for many in range(most + 1) for some in itertools.product(letters, repeat=many)]


class TestLeast(unittest.TestCase):
    def assert_least(self, old, new, patch):
        with self.subTest(old=old, new=new):
            self.assertEqual(least(old, new), patch)
            self.assertEqual(done(patch, old), new)

    def test_it_is_the_first_of_the_shortest_of_all(self):
        for old in (*editions(b"ab", 3), b"aabb", b"abba"):
            for new in editions(b"ab", 4):
                shortest = min([(len(coded(patch)), patch) for patch in all_patches(old, new)])
                self.assertEqual(least(old, new), shortest[1], (old, new))

    def test_of_longer_ones(self):
        chance = random.Random(4)
        for _ in range(60):
            old = bytes(chance.choices(b"abc", k=chance.randint(0, 9)))
            # What lies at 128 and above costs a byte more.
            old = b"-" * chance.choice((0, 120, 125, 128)) + old
            new = bytes(chance.choices(b"abc", k=chance.randint(0, 50)))
            self.assertEqual(least(old, new), shortest_patch(old, new), (old, new))

    def test_empty_editions(self):
        self.assert_least(b"", b"", ())
        self.assert_least(b"abc", b"", ())
        self.assert_least(FULL, b"", ())
        self.assert_least(b"", b"abc", (("bring", b"abc"),))
        self.assert_least(b"", b"a", (("bring", b"a"),))
        self.assert_least(b"", b"aa", (("run", 97, 2),))

    def test_one_byte_is_cheaper_brought_than_copied(self):
        # Between others, and behind place 127.
        self.assert_least(b"b", b"xby", (("bring", b"xby"),))
        self.assert_least(bytes(128) + b"b", b"b", (("bring", b"b"),))
        # As cheap: a bring goes ahead of a copy.
        self.assert_least(b"b", b"b", (("bring", b"b"),))

    def test_two_bytes(self):
        self.assert_least(b"abc", b"bc", (("copy", 1, 2),))
        self.assert_least(bytes(127) + b"bc", b"bc", (("copy", 127, 2),))
        # As cheap: a bring goes ahead of a copy, and that ahead of a run.
        self.assert_least(bytes(128) + b"bc", b"bc", (("bring", b"bc"),))
        self.assert_least(b"bb", b"bb", (("copy", 0, 2),))
        self.assert_least(bytes(128) + b"bb", b"bb", (("run", 98, 2),))
        self.assert_least(b"b", b"bb", (("run", 98, 2),))

    def test_of_several_copies_the_first(self):
        self.assert_least(b"abc-abc-abc", b"abc", (("copy", 0, 3),))
        self.assert_least(b"-abc-abc", b"abc!abc", (("copy", 1, 3), ("bring", b"!"), ("copy", 1, 3)))
        self.assert_least(bytes(125) + b"-abc+abc", b"abc", (("copy", 126, 3),))
        self.assert_least(bytes(128) + b"-abc+abc", b"abc", (("copy", 129, 3),))

    def test_of_several_lengths_the_first(self):
        # Of the same code length are "bcd" and "ef" and others: the shortest first copy goes first.
        self.assert_least(b"abcd-cdef", b"abcdef", (("copy", 0, 2), ("copy", 5, 4)))
        # The copy from the lesser place goes first, though it's longer.
        self.assert_least(b"abcd-ab-cdef", b"abcdef", (("copy", 0, 2), ("copy", 8, 4)))
        self.assert_least(b"abc-ab-cdef-def", b"abcdef", (("copy", 0, 2), ("copy", 7, 4)))
        self.assert_least(b"xabc-ab-def", b"abcdef", (("copy", 1, 3), ("copy", 8, 3)))

    def test_the_edge_of_31_bytes_brought(self):
        some = bytes(range(64))
        self.assert_least(b"", some[:31], (("bring", some[:31]),))
        # As cheap as all at once, and what goes ahead of a longer bring is its beginning.
        self.assert_least(b"", some[:32], (("bring", some[:1]), ("bring", some[1:32])))
        self.assert_least(b"", some[:62], (("bring", some[:31]), ("bring", some[31:62])))
        self.assert_least(b"", some[:63], (("bring", some[:63]),))

    def test_the_edge_of_31_bytes_copied(self):
        for many in (31, 32, 33, 100, 199, 200):
            self.assert_least(FULL, FULL[:many], (("copy", 0, many),))
        self.assert_least(FULL, FULL[100:], (("copy", 100, 100),))

    def test_runs(self):
        for many in (3, 31, 32, 33, 100, 199, 200):
            self.assert_least(b"", b"a" * many, (("run", 97, many),))
        self.assert_least(b"aaa", b"a" * 6, (("run", 97, 6),))
        self.assert_least(b"", b"xaay", (("bring", b"xaay"),))
        # As cheap as all brought at once, and the shorter bring goes first.
        self.assert_least(b"", b"xaaay", (("bring", b"x"), ("run", 97, 3), ("bring", b"y")))
        self.assert_least(b"", b"xaaaay", (("bring", b"x"), ("run", 97, 4), ("bring", b"y")))

    def test_editions_of_200_bytes(self):
        self.assert_least(FULL, FULL, (("copy", 0, 200),))
        # The code of the run would be as long as one of a copy from 0.
        self.assert_least(bytes(200), bytes(200), (("copy", 0, 200),))
        self.assert_least(FULL, FULL[::-1], (("bring", FULL[::-1]),))
        self.assert_least(FULL, FULL[100:] + FULL[:100], (("copy", 100, 100), ("copy", 0, 100)))
        self.assert_least(FULL, bytes([7] * 200), (("run", 7, 200),))
        self.assert_least(b"", FULL, (("bring", FULL),))
        self.assert_least(FULL, FULL[50:60] + b"\x00\x09" + FULL[:188], (
            ("copy", 50, 10), ("bring", b"\x00\x09"), ("copy", 0, 188),
        ))

    def test_any_editions_of_200_bytes(self):
        chance = random.Random(5)
        for letters in (b"ab", b"abcd", FULL):
            old, new = [bytes(chance.choices(letters, k=200)) for _ in range(2)]
            patch = least(old, new)
            self.assertEqual(done(patch, old), new)
            self.assertEqual(patch, shortest_patch(old, new))

    def test_an_edition_that_cannot_be(self):
        for old, new in ((bytes(201), b"a"), (b"a", bytes(201)), (FULL, FULL + b"a"), (bytes(500), bytes(500))):
            with self.assertRaises(BadEdition):
                least(old, new)

    def test_the_same_is_told_again(self):
        old, new = b"abcabc", b"cabcabb"
        told = least(old, new)
        self.assertIs(type(told), tuple)
        self.assertEqual((old, new), (b"abcabc", b"cabcabb"))
        self.assertEqual(least(old, new), told)


if __name__ == "__main__":
    unittest.main()
