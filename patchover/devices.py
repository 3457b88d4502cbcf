"""A device that is led from one edition to the next in its own place, and may be cut at any write."""

from patchover.carrying import as_done
from patchover.errors import Asleep, Awake, BadCell, BadCount, Underway
from patchover.hanging import order
from patchover.patches import makes
from patchover.pieces import check_edition, check_patch, check_reach, is_number, numbers_of
from patchover.stepping import marks, steps

CELLS = 200
# So many places are for marks.
PLACES = 2
MOST_WRITES = 10000


class Work:
    """A patch that is under way; nothing of it changes from begin to end."""

    def __init__(self, before, patch):
        """Begin with the old edition, and the patch as it's done."""
        self.before = before
        self.patch = patch
        self.steps = steps(patch, order(patch))
        self.marks = marks(self.steps)


class Device:
    """A device with its cells and its two places for marks."""

    def __init__(self, edition):
        check_edition(edition)
        self._cells = numbers_of(edition) + [0] * (CELLS - len(edition))
        self._wear = [0] * CELLS
        # What a place holds is its mark, or None, if it's torn.
        self._places = [None, 0]
        self._places_worn = [0] * PLACES
        self._many = len(edition)
        self._work = None
        # How many steps are done, how many marks, and how many writes of the mark that is due.
        self._done = 0
        self._marked = 0
        self._part = 0
        self._asleep = False

    def begin(self, patch):
        """Begin a patch, as it can be done in place; one without steps is done at once."""
        check_patch(patch)
        if self._asleep:
            raise Asleep("the power is cut")
        if self._work is not None:
            raise Underway("another patch is under way")
        before = self.edition()
        check_reach(patch, before)
        self._work = Work(before, as_done(patch, before))
        self._places = [None, 0]
        self._go_on_from_mark()
        self._end_if_done()

    def go(self, many):
        """Do so many writes, and tell how many were done."""
        if not is_number(many, 0, MOST_WRITES):
            raise BadCount(f"{many} is no number of writes")
        if self._asleep:
            raise Asleep("the power is cut")
        writes = 0
        while writes < many and self._work is not None:
            self._write()
            writes += 1
        return writes

    def cut(self):
        """Cut the power."""
        if self._asleep:
            raise Asleep("the power is cut already")
        self._asleep = True

    def wake(self):
        """Go on from the greater whole mark, and tell it; 0, if nothing is under way."""
        if not self._asleep:
            raise Awake("the power isn't cut")
        self._asleep = False
        self._go_on_from_mark()
        return self._done

    def edition(self):
        """Tell the bytes that it holds, None while a patch is under way."""
        if self._work is not None:
            return None
        return bytes(self._cells[:self._many])

    def peek(self, cell):
        """Tell the byte of a cell."""
        if not is_number(cell, 0, CELLS - 1):
            raise BadCell(f"{cell} is no cell")
        return self._cells[cell]

    def old(self):
        """Tell which cells of the old edition still hold its bytes."""
        if self._work is None:
            return list(range(self._many))
        return [cell for cell, byte in enumerate(self._work.before) if self._cells[cell] == byte]

    def wear(self):
        """Tell how many writes each cell had."""
        return list(self._wear)

    def places_worn(self):
        """Tell how many writes each of both places for marks had."""
        return tuple(self._places_worn)

    def under_way(self):
        """Tell (the patch as it's done, marks, steps), or None, if nothing is under way."""
        if self._work is None:
            return None
        return self._work.patch, list(self._work.marks), list(self._work.steps)

    def stands(self):
        """Tell whether it rests, goes or is asleep, and how far it is."""
        if self._asleep:
            return ("asleep", self._mark())
        if self._work is None:
            return ("rests",)
        return ("goes", self._done, self._part)

    def old_edition(self):
        """Tell the old edition of what is under way, None, if nothing is."""
        return None if self._work is None else self._work.before

    def places(self):
        """Tell what both places hold: a mark, or None, if torn."""
        return list(self._places)

    def twin(self):
        """Tell another device that stands as this one does."""
        other = Device(b"")
        other._cells = list(self._cells)
        other._wear = list(self._wear)
        other._places = list(self._places)
        other._places_worn = list(self._places_worn)
        other._many = self._many
        other._work = self._work
        other._done = self._done
        other._marked = self._marked
        other._part = self._part
        other._asleep = self._asleep
        return other

    def _mark(self):
        """Tell the greater whole mark; 0, if nothing is under way."""
        if self._work is None:
            return 0
        return max([mark for mark in self._places if mark is not None])

    def _go_on_from_mark(self):
        """Forget all that was done behind the greater whole mark."""
        self._done = self._mark()
        self._marked = 0
        self._part = 0
        if self._done > 0:
            self._marked = self._work.marks.index(self._done) + 1

    def _end_if_done(self):
        """End what is under way, if all of its marks are written."""
        if self._marked == len(self._work.marks):
            self._many = makes(self._work.patch)
            self._work = None

    def _write(self):
        """Do the next write of what is under way."""
        if self._done < self._work.marks[self._marked]:
            self._write_step()
        else:
            self._write_mark()

    def _write_step(self):
        """Write the cell of the next step."""
        cell, (word, worth) = self._work.steps[self._done]
        self._cells[cell] = self._cells[worth] if word == "old" else worth
        self._wear[cell] += 1
        self._done += 1

    def _write_mark(self):
        """Tear the place for the mark that is due, or write the mark into the torn place."""
        place = self._next_place()
        self._places_worn[place] += 1
        if self._part == 0:
            self._places[place] = None
            self._part = 1
            return
        self._places[place] = self._done
        self._part = 0
        self._marked += 1
        self._end_if_done()

    def _next_place(self):
        """Tell the place that is written next: the torn one, else the one with the lesser mark."""
        # So they are written by turns, the first place first, also behind a cut.
        if None in self._places:
            return self._places.index(None)
        return self._places.index(min(self._places))


def resting(cells, wear, places_worn, many):
    """Tell a device at rest that holds the bytes of so many of its cells."""
    device = Device(b"")
    device._cells = list(cells)
    device._wear = list(wear)
    device._places_worn = list(places_worn)
    device._many = many
    return device


def amid(device, work, places, done, part):
    """Tell a twin of a device at rest that is as far with this work."""
    other = device.twin()
    other._work = work
    other._places = list(places)
    other._go_on_from_mark()
    other._done = done
    other._part = part
    return other
