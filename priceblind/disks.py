"""A disk of three tracks, whose power can be cut between any two strokes."""
from priceblind.checks import is_lot, is_within
from priceblind.errors import BadDisk, BadNumber, Out

TRACKS = 3
LAST_CELL = 10000000
GREATEST_VALUE = 2 ** 63 - 1
MOST_AT_ONCE = 4096


def may_be_held(value):
    """Whether a cell can hold the value."""
    return is_within(value, 0, GREATEST_VALUE)


def check_track(track):
    """Raises an error for what is no track."""
    if not is_within(track, 0, TRACKS - 1):
        raise BadNumber("track")


def check_cell(track, at):
    """Raises an error for what is no track, or not the number of a cell."""
    check_track(track)
    if not is_within(at, 0, LAST_CELL):
        raise BadNumber("at")


def _most_from(at):
    return min(MOST_AT_ONCE, LAST_CELL - at + 1)


def _may_be_written(values, at):
    if not isinstance(values, (list, tuple)) or len(values) > _most_from(at):
        return False
    return all([may_be_held(value) for value in values])


class Disk:
    """Three tracks of cells. What is written waits, and is kept for certain once it is flushed."""

    def __init__(self):
        # By track: what was written to the cells and landed.
        self.cells = [{} for _ in range(TRACKS)]
        self._forget_strokes()
        # How many strokes and flushes the fuse still lets through, None without a fuse.
        self.left = None

    def write(self, track, at, values):
        """Writes the values, a stroke for each, to the cells from at on."""
        check_cell(track, at)
        if not _may_be_written(values, at):
            raise BadNumber("values")
        for value in values:
            self._spend()
            self.strokes.append(((track, at), value))
            self.latest[track][at] = value
            at += 1

    def flush(self):
        """Lets all strokes that wait land."""
        self._spend()
        self._land(self.strokes)
        self._forget_strokes()

    def read(self, track, at, many):
        """The tuple of what so many cells from at on read as."""
        check_cell(track, at)
        if not is_within(many, 0, _most_from(at)):
            raise BadNumber("many")
        landed, latest = self.cells[track], self.latest[track]
        return tuple([latest.get(cell, landed.get(cell, 0)) for cell in range(at, at + many)])

    def kept(self, track):
        """Pairs (at, value) of the cells that hold another value than 0, without what waits."""
        check_track(track)
        return tuple(sorted([pair for pair in self.cells[track].items() if pair[1] != 0]))

    def waiting(self):
        """The strokes that wait, in their order: pairs ((track, at), value)."""
        return tuple(self.strokes)

    def cut(self, lands):
        """Cuts the power: of the strokes that wait those of these numbers land, the others are lost."""
        if not is_lot(lands, len(self.strokes)):
            raise BadNumber("lands")
        self._land([self.strokes[number] for number in lands])
        self._forget_strokes()
        self.left = None

    def fuse(self, many):
        """Sets a fuse: this one of the next strokes and flushes, and all behind it, raise Out."""
        if not is_within(many, 1, None):
            raise BadNumber("many")
        self.left = many - 1

    def no_fuse(self):
        """Takes the fuse out."""
        self.left = None

    def _spend(self):
        if self.left is None:
            return
        if self.left == 0:
            raise Out()
        self.left -= 1

    def _land(self, strokes):
        for (track, at), value in strokes:
            self.cells[track][at] = value

    def _forget_strokes(self):
        self.strokes = []
        # By track: what the last one of the strokes that wait for a cell writes to it.
        self.latest = [{} for _ in range(TRACKS)]


def check_disk(disk):
    """Raises an error for what is no Disk."""
    if not isinstance(disk, Disk):
        raise BadDisk("disk")
