"""steps, marks, unsafe: [9]."""

import copy
import itertools
import unittest

from patchover.carrying import brought, lightest
from patchover.errors import BadMarks, BadOrder, BadPatch
from patchover.hanging import follows, order
from patchover.patches import cells, done
from patchover.stepping import marks, steps, unsafe
from tests.samples import FULL, copying_patches, refused_patches, small_patches
from tests.test_hanging import cells_by_piece, orders_of

# Patches with an order, their steps by it, and the fewest marks of these.
TOLD = (
    ((), [], [], []),
    ((("copy", 0, 5),), [], [], []),
    ((("bring", b"ab"),), [0], [(0, ("new", 97)), (1, ("new", 98))], [2]),
    ((("run", 0, 3),), [0], [(0, ("new", 0)), (1, ("new", 0)), (2, ("new", 0))], [3]),
    # To the left, from the left cell on: each step overwrites what the one ahead read.
    (
        (("copy", 1, 3),), [0],
        [(0, ("old", 1)), (1, ("old", 2)), (2, ("old", 3))], [1, 2, 3],
    ),
    # Farther to the left a mark serves for more steps.
    (
        (("copy", 2, 4),), [0],
        [(0, ("old", 2)), (1, ("old", 3)), (2, ("old", 4)), (3, ("old", 5))], [2, 4],
    ),
    ((("copy", 5, 2),), [0], [(0, ("old", 5)), (1, ("old", 6))], [2]),
    # To the right, from the right cell on.
    (
        (("run", 7, 1), ("copy", 0, 3)), [1, 0],
        [(3, ("old", 2)), (2, ("old", 1)), (1, ("old", 0)), (0, ("new", 7))], [1, 2, 3, 4],
    ),
    (
        (("bring", b"ab"), ("copy", 0, 3)), [1, 0],
        [(4, ("old", 2)), (3, ("old", 1)), (2, ("old", 0)), (0, ("new", 97)), (1, ("new", 98))], [2, 3, 5],
    ),
    # Idle ones have no steps, and what reads their cells is safe.
    (
        (("copy", 0, 2), ("copy", 0, 2), ("copy", 4, 1), ("run", 7, 1)), [1, 3],
        [(3, ("old", 1)), (2, ("old", 0)), (5, ("new", 7))], [3],
    ),
    # Another order, other steps.
    ((("copy", 5, 1), ("run", 7, 1)), [1, 0], [(1, ("new", 7)), (0, ("old", 5))], [2]),
)

# Steps with marks, and what unsafe tells.
MARKED = (
    ([], [], None),
    ([(0, ("new", 7))], [1], None),
    ([(0, ("old", 1)), (1, ("new", 7))], [2], (0, 1)),
    ([(0, ("old", 1)), (1, ("new", 7))], [1, 2], None),
    ([(1, ("new", 7)), (0, ("old", 1))], [2], None),
    # Between a mark and both of the steps.
    ([(5, ("new", 7)), (0, ("old", 1)), (6, ("new", 7)), (1, ("new", 7))], [4], (1, 3)),
    ([(5, ("new", 7)), (0, ("old", 1)), (6, ("new", 7)), (1, ("new", 7))], [1, 4], (1, 3)),
    ([(5, ("new", 7)), (0, ("old", 1)), (6, ("new", 7)), (1, ("new", 7))], [2, 4], None),
    ([(5, ("new", 7)), (0, ("old", 1)), (6, ("new", 7)), (1, ("new", 7))], [3, 4], None),
    # The first other, though a lesser one comes to be unsafe behind it.
    ([(9, ("old", 3)), (8, ("old", 2)), (2, ("new", 7)), (3, ("new", 7))], [4], (1, 2)),
    # Of several the first one.
    ([(9, ("old", 3)), (8, ("old", 3)), (7, ("old", 3)), (3, ("new", 7))], [4], (0, 3)),
    ([(9, ("old", 3)), (8, ("old", 3)), (7, ("old", 3)), (3, ("new", 7))], [1, 4], (1, 3)),
    # What is new reads nothing, though its byte be a cell's number.
    ([(0, ("new", 1)), (1, ("new", 0))], [2], None),
    # Behind the second mark, too.
    ([(0, ("new", 1)), (4, ("old", 5)), (5, ("old", 6)), (6, ("new", 0))], [1, 2, 4], (2, 3)),
)


def all_marks(many):
    """Tell all lists of marks for so many steps."""
    if many == 0:
        return [[]]
    return [
        [*some, many] for more in range(many) for some in itertools.combinations(range(1, many), more)
    ]


def unsafe_of_all(some, told):
    """Tell what unsafe must tell, of all pairs, by the words of the document."""
    edges = [0, *told]
    pairs = [
        (other, one) for begin, end in itertools.pairwise(edges)
        for one, other in itertools.combinations(range(begin, end), 2)
        if some[one][1] == ("old", some[other][0])
    ]
    return min(pairs)[::-1] if pairs else None


def ordered_patches():
    """Tell many patches that can be done in place, as they are, or with some copies brought."""
    told = []
    for patch in (*small_patches(2), *copying_patches(21, 300, 5, 3), *copying_patches(22, 60, 9, 12)):
        told.append(brought(patch, lightest(patch)[1], FULL))
    return told


def by_steps(some, edition):
    """Tell the cells behind all steps."""
    told = list(edition)
    for cell, (word, worth) in some:
        told[cell] = told[worth] if word == "old" else worth
    return bytes(told)


class TestSteps(unittest.TestCase):
    def test_told(self):
        for patch, turn, told, _ in TOLD:
            with self.subTest(patch=patch):
                self.assertEqual(steps(patch, turn), told)

    def test_steps_make_the_new_edition_in_place(self):
        for patch in ordered_patches():
            for turn in orders_of(patch)[:20]:
                told = steps(patch, turn)
                new = done(patch, FULL)
                self.assertEqual(by_steps(told, FULL), new + FULL[len(new):], (patch, turn))

    def test_each_cell_that_is_not_idle_once_piece_by_piece(self):
        for patch in ordered_patches():
            turn = order(patch)
            told = steps(patch, turn)
            makes = cells(patch)
            writes = [sorted(some) for _, some in cells_by_piece(patch)]
            at = 0
            for piece in turn:
                part = told[at:at + len(writes[piece])]
                left = patch[piece][0] != "copy" or patch[piece][1] > writes[piece][0]
                self.assertEqual([cell for cell, _ in part], writes[piece] if left else writes[piece][::-1])
                self.assertEqual([what for _, what in part], [makes[cell] for cell, _ in part])
                at += len(part)
            self.assertEqual(at, len(told))

    def test_at_the_edges(self):
        told = steps((("copy", 1, 199), ("run", 7, 1)), [0, 1])
        self.assertEqual(told, [*[(cell, ("old", cell + 1)) for cell in range(199)], (199, ("new", 7))])
        told = steps((("run", 7, 1), ("copy", 0, 199)), [1, 0])
        self.assertEqual(told, [*[(cell, ("old", cell - 1)) for cell in range(199, 0, -1)], (0, ("new", 7))])

    def test_orders_that_cannot_be(self):
        # 0 hangs ahead of 1, and 1 of 3; 2 is idle.
        patch = (("copy", 1, 1), ("copy", 3, 1), ("copy", 2, 1), ("run", 7, 1))
        self.assertEqual(len(steps(patch, [0, 1, 3])), 3)
        for turn, number in (
            ([], 0), ([0], 1), ([0, 1], 2),
            # Another one must come ahead.
            ([1], 0), ([3, 0, 1], 0), ([1, 0, 3], 0), ([0, 3, 1], 1), ([0, 3], 1),
            # Told twice, an idle one, none at all, one too many.
            ([0, 0, 1, 3], 1), ([0, 1, 1, 3], 2), ([0, 1, 3, 3], 3), ([2, 0, 1, 3], 0), ([0, 2], 1),
            ([0, 1, 3, 2], 3), ([0, 1, 4], 2), ([0, 1, -1], 2), ([-4, 1, 3], 0), ([0, 1, 3, 4], 3),
            ([False, 1, 3], 0), ([0, True, 3], 1),
        ):
            with self.subTest(turn=turn):
                ahead = list(turn)
                with self.assertRaises(BadOrder) as caught:
                    steps(patch, turn)
                self.assertEqual(caught.exception.number, number)
                self.assertEqual(turn, ahead)
        with self.assertRaises(BadOrder) as caught:
            steps((), [0])
        self.assertEqual(caught.exception.number, 0)

    def test_orders_of_a_ring(self):
        # 0 and 1 are a ring, 2 stands for itself.
        patch = (("copy", 1, 1), ("copy", 0, 1), ("run", 7, 1))
        for turn, number in (([0, 1, 2], 0), ([1, 0, 2], 0), ([2, 0, 1], 1), ([2], 1), ([], 0), ([2, 1], 1)):
            with self.subTest(turn=turn):
                with self.assertRaises(BadOrder) as caught:
                    steps(patch, turn)
                self.assertEqual(caught.exception.number, number)

    def test_all_lists_of_small_patches(self):
        for patch in (*small_patches(2), *copying_patches(23, 60, 3, 3)):
            orders = orders_of(patch)
            for many in range(len(patch) + 2):
                for turn in itertools.product(range(-1, len(patch) + 1), repeat=many):
                    turn = list(turn)
                    if turn in orders:
                        self.assertTrue(follows(patch, turn))
                        steps(patch, turn)
                        continue
                    with self.assertRaises(BadOrder) as caught:
                        steps(patch, turn)
                    if orders:
                        begins = [at for at in range(many + 1) if any(told[:at] == turn[:at] for told in orders)]
                        self.assertEqual(caught.exception.number, max(begins), (patch, turn))

    def test_a_patch_that_cannot_be(self):
        for patch, piece in refused_patches():
            for turn in ([], [9]):
                with self.assertRaises(BadPatch) as caught:
                    steps(patch, turn)
                self.assertEqual(caught.exception.piece, piece)

    def test_nothing_is_changed_and_what_is_told_may_be(self):
        patch, turn = (("copy", 1, 1), ("run", 7, 1)), [0, 1]
        told = steps(patch, turn)
        kept = copy.deepcopy(told)
        told.append(9)
        turn_ahead = list(turn)
        self.assertEqual(steps(patch, turn), kept)
        self.assertEqual(turn, turn_ahead)


class TestMarks(unittest.TestCase):
    def test_told(self):
        for patch, turn, told, fewest in TOLD:
            with self.subTest(patch=patch):
                self.assertEqual(marks(told), fewest)

    def test_each_is_as_late_as_can_be(self):
        # One mark between 1 and 4 would do; it's the latest.
        some = [(9, ("old", 1)), (8, ("new", 0)), (7, ("new", 0)), (6, ("new", 0)), (1, ("new", 0))]
        self.assertEqual(marks(some), [4, 5])
        # The step that calls for a mark reads behind it.
        self.assertEqual(marks([(0, ("old", 1)), (1, ("old", 2)), (2, ("new", 0))]), [1, 2, 3])
        self.assertEqual(marks([(0, ("old", 1)), (1, ("old", 5)), (2, ("new", 0))]), [1, 3])
        # What was read ahead of a mark may be written behind it.
        self.assertEqual(marks([(9, ("old", 1)), (8, ("old", 2)), (1, ("new", 0)), (2, ("new", 0))]), [2, 4])

    def test_no_step_bars_itself(self):
        self.assertEqual(marks([(3, ("old", 3))]), [1])
        self.assertIsNone(unsafe([(3, ("old", 3))], [1]))

    def test_by_all(self):
        found = set()
        for patch in ordered_patches():
            some = steps(patch, order(patch))[:9]
            safe = [told for told in all_marks(len(some)) if unsafe_of_all(some, told) is None]
            fewest = [told for told in safe if len(told) == len(safe[0])]
            told = marks(some)
            self.assertEqual(told, max(fewest), some)
            # Not just the first of them is as late as can be.
            for other in fewest:
                self.assertTrue(all(mark >= beside for mark, beside in zip(told, other)))
            found.add(len(told))
        self.assertGreaterEqual(len(found), 6)

    def test_what_is_told_may_be_changed(self):
        some = [(0, ("old", 1)), (1, ("new", 7))]
        told = marks(some)
        told.append(9)
        self.assertEqual(marks(some), [1, 2])
        self.assertEqual(some, [(0, ("old", 1)), (1, ("new", 7))])


class TestUnsafe(unittest.TestCase):
    def test_told(self):
        for some, told, pair in MARKED:
            with self.subTest(some=some, told=told):
                self.assertEqual(unsafe(some, told), pair)
                self.assertEqual(unsafe_of_all(some, told), pair)

    def test_by_all(self):
        barred = 0
        for patch in ordered_patches():
            some = steps(patch, order(patch))[:8]
            for told in all_marks(len(some)):
                pair = unsafe(some, told)
                self.assertEqual(pair, unsafe_of_all(some, told), (some, told))
                barred += pair is not None
        self.assertGreater(barred, 1000)

    def test_marks_are_safe(self):
        for patch in ordered_patches():
            some = steps(patch, order(patch))
            self.assertIsNone(unsafe(some, marks(some)))

    def test_marks_that_cannot_be(self):
        some = [(0, ("new", 7)), (1, ("new", 7)), (2, ("new", 7))]
        for told in (
            [], [0], [1], [2], [4], [0, 3], [-1, 3], [1, 2], [2, 2, 3], [3, 3], [2, 1, 3], [3, 2], [1, 4], [3, 4],
            [1, 3, 3], [True, 3], [1, 2, 3, 4],
        ):
            with self.subTest(told=told):
                ahead = list(told)
                with self.assertRaises(BadMarks):
                    unsafe(some, told)
                self.assertEqual(told, ahead)
        for told in ([0], [1], [-1], [False], [True]):
            with self.subTest(told=told):
                with self.assertRaises(BadMarks):
                    unsafe([], told)

    def test_bad_marks_come_ahead_of_what_is_unsafe(self):
        with self.assertRaises(BadMarks):
            unsafe([(0, ("old", 1)), (1, ("new", 7))], [])


if __name__ == "__main__":
    unittest.main()
