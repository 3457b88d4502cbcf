"""hangs, order, ring, follows, is_ring: [7]."""

import copy
import itertools
import unittest

from patchover.errors import BadPatch
from patchover.hanging import follows, hangs, is_ring, order, ring
from tests.samples import EDGES, copying_patches, refused_patches, small_patches

WAYS = {
    "hangs": hangs,
    "order": order,
    "ring": ring,
    "follows": lambda patch: follows(patch, []),
    "is_ring": lambda patch: is_ring(patch, [0, 1]),
}

# Patches with what hangs tells, order, and ring.
TOLD = (
    ((), [], [], None),
    ((("copy", 0, 5),), [], [], None),
    ((("copy", 1, 5),), [], [0], None),
    ((("bring", b"abc"), ("run", 7, 3)), [], [0, 1], None),
    # Each reads the cell that the other one writes.
    ((("copy", 1, 1), ("copy", 0, 1)), [(0, 1), (1, 0)], None, [0, 1]),
    # To the left, then to the right.
    ((("copy", 2, 2), ("copy", 5, 2), ("run", 7, 2)), [(0, 1), (1, 2)], [0, 1, 2], None),
    ((("run", 7, 2), ("copy", 0, 2), ("copy", 2, 2)), [(1, 0), (2, 1)], [2, 1, 0], None),
    # Idle copies: what they would read or write doesn't count, and others may read their cells.
    ((("copy", 0, 2), ("copy", 0, 2), ("copy", 2, 1)), [(2, 1)], [2, 1], None),
    ((("copy", 1, 1), ("copy", 1, 1), ("copy", 0, 1)), [(2, 0)], [2, 0], None),
    # It's no idle one, if it goes to other cells, though they are partly its own.
    ((("run", 7, 1), ("copy", 0, 4)), [(1, 0)], [1, 0], None),
    ((("copy", 1, 4), ("run", 7, 1)), [(0, 1)], [0, 1], None),
    # What is brought or a run hangs ahead of none, and what lies behind the new edition isn't written.
    ((("copy", 9, 2), ("bring", b"\x00"), ("run", 0, 3)), [], [0, 1, 2], None),
    ((("copy", 5, 1), ("run", 0, 1), ("copy", 5, 3)), [], [0, 1, 2], None),
    # One reads what several write, and the cells just beside count not.
    (
        (("copy", 3, 3), ("run", 7, 1), ("bring", b"a"), ("run", 7, 1), ("run", 7, 1)),
        [(0, 1), (0, 2), (0, 3)], [0, 1, 2, 3, 4], None,
    ),
    ((("run", 7, 1), ("run", 7, 1), ("run", 7, 1), ("copy", 1, 1)), [(3, 1)], [0, 2, 3, 1], None),
    # The last one goes ahead of a lesser one only where it must.
    ((("run", 7, 1), ("copy", 0, 1), ("run", 7, 1), ("copy", 2, 1)), [(1, 0), (3, 2)], [1, 0, 3, 2], None),
    ((("run", 7, 1), ("run", 7, 1), ("run", 7, 1), ("copy", 0, 1)), [(3, 0)], [1, 2, 3, 0], None),
    # Of rings the shortest, though another one begins with a lesser piece.
    (
        (("copy", 1, 1), ("copy", 2, 1), ("copy", 0, 1), ("copy", 4, 1), ("copy", 3, 1)),
        [(0, 1), (1, 2), (2, 0), (3, 4), (4, 3)], None, [3, 4],
    ),
    # Of the shortest the first one.
    (
        (("copy", 3, 1), ("copy", 2, 1), ("copy", 1, 1), ("copy", 0, 1)),
        [(0, 3), (1, 2), (2, 1), (3, 0)], None, [0, 3],
    ),
    # A ring that goes not from lesser to greater ones.
    (
        (("copy", 2, 1), ("copy", 0, 1), ("copy", 1, 1)),
        [(0, 2), (1, 0), (2, 1)], None, [0, 2, 1],
    ),
    # Two rings of two begin with one piece.
    (
        (("copy", 2, 2), ("copy", 0, 1), ("copy", 0, 1)),
        [(0, 1), (0, 2), (1, 0), (2, 0)], None, [0, 1],
    ),
    # What isn't in the ring is ahead of it, or behind.
    (
        (("copy", 1, 1), ("copy", 2, 1), ("copy", 1, 1), ("run", 7, 1)),
        [(0, 1), (1, 2), (2, 1)], None, [1, 2],
    ),
)


def cells_by_piece(patch):
    """Tell for each piece (the cells that it reads, those that it writes), by the words of the document."""
    told = []
    start = 0
    for piece in patch:
        length = len(piece[1]) if piece[0] == "bring" else piece[2]
        writes = list(range(start, start + length))
        reads = list(range(piece[1], piece[1] + length)) if piece[0] == "copy" else []
        told.append(([], []) if reads == writes else (reads, writes))
        start += length
    return told


def pairs_of(patch):
    """Tell all (one, other) as they must be."""
    told = cells_by_piece(patch)
    return [
        (one, other) for one, other in itertools.permutations(range(len(patch)), 2)
        if [cell for cell in told[one][0] if cell in told[other][1]]
    ]


def may_follow(pairs, turn):
    """Tell whether pieces stand in a turn as they must."""
    return all([turn.index(one) < turn.index(other) for one, other in pairs])


def orders_of(patch):
    """Tell all orders, rising, of all turns."""
    pairs = pairs_of(patch)
    some = [at for at, (_, writes) in enumerate(cells_by_piece(patch)) if writes]
    return [list(turn) for turn in itertools.permutations(some) if may_follow(pairs, turn)]


def rings_of(patch):
    """Tell all rings, the shortest ahead, those of one length rising."""
    pairs = pairs_of(patch)
    return [
        list(turn) for many in range(2, len(patch) + 1)
        for turn in itertools.permutations(range(len(patch)), many)
        if all([pair in pairs for pair in zip(turn, turn[1:] + turn[:1])])
    ]


def many_patches():
    """Tell many patches of few pieces."""
    return [*small_patches(3), *copying_patches(6, 400, 5, 3), *copying_patches(7, 60, 6, 2)]


class TestTold(unittest.TestCase):
    def test_hangs(self):
        for patch, pairs, _, _ in TOLD:
            with self.subTest(patch=patch):
                self.assertEqual(hangs(patch), pairs)

    def test_order(self):
        for patch, _, turn, _ in TOLD:
            with self.subTest(patch=patch):
                self.assertEqual(order(patch), turn)

    def test_ring(self):
        for patch, _, _, first in TOLD:
            with self.subTest(patch=patch):
                self.assertEqual(ring(patch), first)

    def test_at_the_edges(self):
        for piece in EDGES:
            with self.subTest(piece=piece):
                self.assertEqual(hangs((piece,)), [])
                self.assertEqual(order((piece,)), [] if piece[:2] == ("copy", 0) else [0])
                self.assertIsNone(ring((piece,)))

    def test_a_patch_that_cannot_be(self):
        for patch, piece in refused_patches():
            for name, way in WAYS.items():
                with self.subTest(name, patch=patch):
                    with self.assertRaises(BadPatch) as caught:
                        way(patch)
                    self.assertEqual(caught.exception.piece, piece)

    def test_nothing_is_changed_and_what_is_told_may_be(self):
        for patch in ((("copy", 1, 1), ("copy", 0, 1)), (("run", 7, 1), ("copy", 0, 1))):
            ahead = copy.deepcopy(patch)
            for name, way in WAYS.items():
                with self.subTest(name, patch=patch):
                    told = way(patch)
                    kept = copy.deepcopy(told)
                    if isinstance(told, list):
                        told.append(9)
                    self.assertEqual(patch, ahead)
                    self.assertEqual(way(patch), kept)

    def test_lists_that_are_handed_in_stand_as_ahead(self):
        patch = (("copy", 1, 1), ("copy", 0, 1))
        for way in (follows, is_ring):
            told = [1, 0]
            way(patch, told)
            self.assertEqual(told, [1, 0])


class TestByAll(unittest.TestCase):
    def test_hangs_and_order_and_ring(self):
        with_ring = 0
        for patch in many_patches():
            self.assertEqual(hangs(patch), pairs_of(patch), patch)
            orders = orders_of(patch)
            self.assertEqual(order(patch), orders[0] if orders else None, patch)
            rings = rings_of(patch)
            self.assertEqual(ring(patch), rings[0] if rings else None, patch)
            self.assertEqual(bool(orders), not rings, patch)
            with_ring += bool(rings)
        self.assertGreater(with_ring, 100)

    def test_follows_and_is_ring(self):
        for patch in copying_patches(8, 120, 4, 3):
            orders = orders_of(patch)
            rings = rings_of(patch)
            for many in range(len(patch) + 2):
                for told in itertools.product(range(-1, len(patch) + 1), repeat=many):
                    told = list(told)
                    self.assertIs(follows(patch, told), told in orders, (patch, told))
                    self.assertIs(is_ring(patch, told), told in rings, (patch, told))


class TestOrder(unittest.TestCase):
    def test_of_200_pieces(self):
        falling = tuple([("run", 7, 1), *[("copy", cell, 1) for cell in range(199)]])
        self.assertEqual(order(falling), list(range(199, -1, -1)))
        rising = tuple([*[("copy", cell, 1) for cell in range(1, 200)], ("run", 7, 1)])
        self.assertEqual(order(rising), list(range(200)))
        self.assertEqual(order(tuple([("copy", cell, 1) for cell in range(200)])), [])
        self.assertEqual(hangs(rising), [(cell, cell + 1) for cell in range(199)])

    def test_the_first_as_lists_go_is_not_the_last_turned_around(self):
        patch = (("run", 7, 1), ("run", 7, 1), ("copy", 1, 1), ("copy", 0, 1))
        self.assertEqual(order(patch), [2, 1, 3, 0])

    def test_a_ring_bars_all_and_pieces_beside_it_do_not_help(self):
        patch = (("copy", 1, 1), ("copy", 0, 1), ("run", 7, 9), ("bring", b"a"))
        self.assertIsNone(order(patch))
        self.assertFalse(follows(patch, [2, 3]))


class TestRing(unittest.TestCase):
    def test_of_many_pieces(self):
        for many in (2, 3, 15, 199, 200):
            around = tuple([("copy", (cell + 1) % many, 1) for cell in range(many)])
            with self.subTest(many=many):
                self.assertEqual(ring(around), list(range(many)))
                self.assertIsNone(order(around))
                self.assertTrue(is_ring(around, list(range(many))))
                self.assertTrue(is_ring(around, [*range(1, many), 0]))
            back = tuple([("copy", (cell - 1) % many, 1) for cell in range(many)])
            with self.subTest(many=many):
                self.assertEqual(ring(back), [0, *range(many - 1, 0, -1)])

    def test_of_two_long_pieces(self):
        patch = (("copy", 100, 100), ("copy", 0, 100))
        self.assertEqual(hangs(patch), [(0, 1), (1, 0)])
        self.assertEqual(ring(patch), [0, 1])

    def test_none_where_there_is_an_order(self):
        for patch in many_patches():
            self.assertNotEqual(ring(patch) is None, order(patch) is None)

    def test_the_lesser_next_piece_may_begin_a_longer_one(self):
        # By 1 it comes back over 4, 2 and 3, by 2 over 3 alone.
        patch = (
            ("copy", 2, 2), ("copy", 5, 1), ("copy", 4, 1), ("copy", 0, 1), ("copy", 3, 1),
        )
        self.assertEqual(hangs(patch), [(0, 1), (0, 2), (1, 4), (2, 3), (3, 0), (4, 2)])
        self.assertEqual(ring(patch), [0, 2, 3])
        self.assertTrue(is_ring(patch, [0, 1, 4, 2, 3]))


class TestFollows(unittest.TestCase):
    def test_whichever_is_first(self):
        patch = (("run", 7, 1), ("run", 7, 1), ("copy", 0, 1))
        for told in ([1, 2, 0], [2, 0, 1], [2, 1, 0]):
            self.assertIs(follows(patch, told), True)
        for told in ([0, 1, 2], [0, 2, 1], [1, 0, 2]):
            self.assertIs(follows(patch, told), False)

    def test_all_that_are_not_idle_each_once(self):
        patch = (("run", 7, 1), ("copy", 1, 1), ("copy", 0, 1))
        self.assertIs(follows(patch, [2, 0]), True)
        for told in ([], [0], [2], [2, 0, 0], [2, 2, 0], [2, 0, 1], [1, 2, 0], [2, 1], [2, 0, 3], [2, -3], [-1, 0]):
            with self.subTest(told=told):
                self.assertIs(follows(patch, told), False)

    def test_true_and_false_are_no_numbers(self):
        self.assertIs(follows((("copy", 1, 1), ("run", 7, 1)), [False, True]), False)
        self.assertIs(follows((("copy", 0, 1), ("run", 7, 1)), [True]), False)
        self.assertIs(is_ring((("copy", 1, 1), ("copy", 0, 1)), [0, True]), False)
        self.assertIs(is_ring((("copy", 1, 1), ("copy", 0, 1)), [False, 1]), False)

    def test_none_is_wanted(self):
        for patch in ((), (("copy", 0, 3),)):
            self.assertIs(follows(patch, []), True)
            self.assertIs(follows(patch, [0]), False)

    def test_where_a_ring_bars_all(self):
        for told in ([], [0], [1], [0, 1], [1, 0]):
            self.assertIs(follows((("copy", 1, 1), ("copy", 0, 1)), told), False)


class TestIsRing(unittest.TestCase):
    def test_whatever_its_length(self):
        patch = (("copy", 2, 2), ("copy", 0, 1), ("copy", 1, 2))
        self.assertEqual(hangs(patch), [(0, 1), (0, 2), (1, 0), (2, 0), (2, 1)])
        self.assertEqual(ring(patch), [0, 1])
        for told in ([0, 1], [1, 0], [0, 2], [2, 0], [0, 2, 1], [2, 1, 0], [1, 0, 2]):
            self.assertIs(is_ring(patch, told), True)
        for told in ([1, 2], [2, 1], [0, 1, 2], [1, 2, 0], [2, 0, 1]):
            self.assertIs(is_ring(patch, told), False)

    def test_at_least_two_none_twice(self):
        patch = (("copy", 1, 1), ("copy", 0, 1), ("copy", 3, 1), ("copy", 2, 1))
        for told in ([0, 1], [1, 0], [2, 3], [3, 2]):
            self.assertIs(is_ring(patch, told), True)
        for told in ([], [0], [0, 0], [0, 1, 0, 1], [0, 1, 0], [0, 1, 2, 3], [0, 2], [0, -3], [-4, -3], [4, 5], [0, 4]):
            with self.subTest(told=told):
                self.assertIs(is_ring(patch, told), False)

    def test_of_a_piece_that_reads_what_it_writes(self):
        self.assertIs(is_ring((("run", 7, 1), ("copy", 2, 4)), [1]), False)
        self.assertIs(is_ring((("run", 7, 1), ("copy", 2, 4)), [1, 1]), False)

    def test_the_last_must_hang_ahead_of_the_first(self):
        patch = (("copy", 1, 1), ("copy", 2, 1), ("run", 7, 1))
        self.assertIs(is_ring(patch, [0, 1]), False)
        self.assertIs(is_ring(patch, [0, 1, 2]), False)


if __name__ == "__main__":
    unittest.main()
