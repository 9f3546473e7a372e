"""Tidyings: files set out anew, closer together, copy by copy."""
from priceblind.checks import is_size, is_within
from priceblind.deeds import check_deed, needs_tidying, size_in
from priceblind.errors import BadNumber, Misfit
from priceblind.layouts import check_layout, check_size, file_at, laid, length, places
from priceblind.papers import Paper, fixed
from priceblind.regions import LAST_RANK, files_of, placed, rank_by


def _things_below(layout, rank):
    """The things of lesser ranks that lie in rooms of regions of this rank or more."""
    things = [thing for at_rank, _, room in layout.regions if at_rank >= rank for thing in room]
    return [thing for thing in things if rank_by(thing[2]) < rank]


def falls(layout, size):
    """The things to whose ranks, one after another, the rank falls from which a deed of this size tidies."""
    found = []
    below = _things_below(layout, rank_by(size))
    while below != []:
        thing = min(below, key=lambda each: rank_by(each[2]))
        found.append(thing)
        below = _things_below(layout, rank_by(thing[2]))
    return found


def rank_from(layout, size):
    """The rank from which a deed of this size tidies the layout, whether or not it needs to."""
    check_layout(layout)
    check_size(size)
    return min([rank_by(size)] + [rank_by(thing[2]) for thing in falls(layout, size)])


def _check_parts(layout, rank, put, drop):
    check_layout(layout)
    if not is_within(rank, 0, LAST_RANK):
        raise BadNumber("rank")
    if put is not None and not is_size(put):
        raise BadNumber("put")
    if drop is not None and file_at(layout, drop) is None:
        raise BadNumber("drop")


def anew(layout, rank, put=None, drop=None):
    """The Layout that stands behind a tidying from this rank, with the put file, without the dropped one."""
    _check_parts(layout, rank, put, drop)
    if _things_below(layout, rank) != []:
        raise Misfit("rank")
    if put is not None and rank_by(put) < rank:
        raise Misfit("put")
    if drop is not None and file_at(layout, drop)[0] < rank:
        raise Misfit("drop")
    below = [region for region in layout.regions if region[0] < rank]
    above = [region for region in layout.regions if region[0] >= rank]
    files = [file for file in files_of(above) if file[0] != drop]
    puts = layout.puts
    if put is not None:
        files = files + [(puts, put)]
        puts += 1
    return laid(layout.q, puts, tuple(below + _regions_of(files, rank)))


def _regions_of(files, least):
    regions = []
    for rank in range(least, LAST_RANK + 1):
        payload = [("file", serial, size) for serial, size in sorted(files) if rank_by(size) == rank]
        if payload != []:
            regions.append((rank, tuple(payload), ()))
    return regions


class Tidying(Paper):
    """From which rank, the Layout behind it, where the put file is written, all copies in order."""

    def __init__(self, rank, layout, far, copies):
        super().__init__("tidying", rank, layout, far, copies)
        self.rank = fixed(rank)
        self.layout = fixed(layout)
        self.far = fixed(far)
        self.copies = fixed(copies)


def tidying(layout, deed):
    """The Tidying of a deed that needs one."""
    check_layout(layout)
    check_deed(layout, deed)
    if not needs_tidying(layout, deed):
        raise Misfit("room")
    word, number = deed
    rank = rank_from(layout, size_in(layout, deed))
    if word == "put":
        made = anew(layout, rank, number)
    else:
        made = anew(layout, rank, None, number)
    far = max(length(layout), length(made))
    return Tidying(rank, made, far, _copies(layout, made, rank, far))


class Mover:
    """Where files lie while they are copied, and the copies that were made."""

    def __init__(self, lies, spare):
        self.lies = lies
        # Cells that no file has, behind all others.
        self.spare = spare
        self.copies = []

    def straight(self, serial, to):
        """Copies a file, if it does not lie there already."""
        if self.lies[serial] != to:
            self.copies.append((serial, self.lies[serial], to))
            self.lies[serial] = to

    def far_off(self, serial, size):
        """Copies a file to the spare cells."""
        self.straight(serial, self.spare)
        self.spare += size

    def around(self, serial, size, to):
        """Copies a file; by way of the spare cells if it would come to lie over itself."""
        if 0 < abs(to - self.lies[serial]) < size:
            self.straight(serial, self.spare)
        self.straight(serial, to)


def _copies(layout, made, rank, far):
    new = {serial: place for serial, place, _ in places(made)}
    moved = [row for row in placed(layout.q, layout.regions) if row[0] >= rank]
    in_payloads = _staying([row for _, payload, _ in moved for row in payload], new)
    in_rooms = _staying([row for _, _, room in moved for row in room], new)
    lies, spare = written_first(layout, made, far)
    mover = Mover(lies, spare)
    for serial, _, size in in_rooms:
        mover.far_off(serial, size)
    # They are packed from where the first of these regions begins, whatever lies there.
    to = min([place for _, payload, _ in moved for _, _, place, _ in payload], default=0)
    for serial, _, size in in_payloads:
        mover.around(serial, size, to)
        to += size
    for serial, _, size in reversed(in_payloads):
        mover.around(serial, size, new[serial])
    far_ones = [serial for serial, place in mover.lies.items() if place >= far]
    for place, serial in sorted([(new[serial], serial) for serial in far_ones]):
        mover.straight(serial, place)
    return mover.copies


def _staying(rows, new):
    """Triples (serial, place, size) of the files among the rows, the dropped one left out."""
    return [(serial, place, size) for word, serial, place, size in rows if word == "file" and serial in new]


def written_first(layout, made, far):
    """Where the files lie when the put one is written to far, by serial, and the cell behind all of them."""
    lies = {serial: place for serial, place, _ in places(layout)}
    if made.puts == layout.puts:
        return lies, far
    lies[layout.puts] = far
    return lies, far + file_at(made, layout.puts)[2]
