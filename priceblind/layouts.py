"""How the strip is laid out: regions of files of one rank, each with a room behind it."""
from priceblind.checks import is_integer, is_q, is_size, is_within
from priceblind.errors import BadLayout, BadNumber, BadText, Misfit
from priceblind.layout_texts import parts_of, text_of
from priceblind.papers import fixed
from priceblind.regions import are_let, cells_of, files_of, placed, rank_by, rank_taking, room_cells


def rank_of(size):
    """The rank of a size."""
    check_size(size)
    return rank_by(size)


def check_q(q):
    """Raises an error for what is no q, by which strips are laid out."""
    if not is_q(q):
        raise BadNumber("q")


def check_size(size):
    """Raises an error for what is no size of a file."""
    if not is_size(size):
        raise BadNumber("size")


class Layout:
    """How files, and what is left of dropped ones, lie on the strip. It never changes."""

    def __init__(self, q, puts, regions):
        check_q(q)
        if not is_within(puts, 0, None):
            raise BadNumber("puts")
        kept = fixed(regions)
        if not are_let(q, puts, kept):
            raise BadLayout("regions")
        self.q = q
        self.puts = puts
        self.regions = kept

    def __eq__(self, other):
        return (isinstance(other, Layout) and self.q == other.q and self.puts == other.puts
                and self.regions == other.regions)

    def __str__(self):
        return str(text_of(self.q, self.puts, self.regions))


def laid(q, puts, regions):
    """The Layout of regions that are let for certain, as they come of those of a Layout by [5] or [6]."""
    # It is made behind every deed; to look at all of its things again each time would take long.
    layout = Layout(q, puts, ())
    layout.regions = regions
    return layout


def read_layout(text):
    """The Layout whose text this is."""
    q, puts, regions = parts_of(text)
    try:
        return Layout(q, puts, regions)
    except BadLayout:
        # Each item can stand where it is, so only the whole shows that there is no such layout.
        raise BadText(text.count(" ")) from None


def empty(q):
    """The layout without regions in which nothing was put."""
    return Layout(q, 0, ())


def check_layout(layout):
    """Raises an error for what is no Layout."""
    if not isinstance(layout, Layout):
        raise BadLayout("layout")


def places(layout):
    """The triples (serial, place, size) of all files, by their places."""
    check_layout(layout)
    rows = [row for _, payload, room in placed(layout.q, layout.regions) for row in payload + room]
    return tuple([(serial, place, size) for word, serial, place, size in rows if word == "file"])


def length(layout):
    """The cell with which the last room ends, 0 without regions."""
    check_layout(layout)
    return sum([cells_of(payload) + room_cells(layout.q, payload) for _, payload, _ in layout.regions])


def live(layout):
    """How many cells all files take together."""
    check_layout(layout)
    return sum([size for _, size in files_of(layout.regions)])


def room_for(layout, size):
    """The rank of the region into whose room the size goes, None if no room takes it."""
    check_layout(layout)
    check_size(size)
    return rank_taking(layout.q, layout.regions, size)


def put_in(layout, size):
    """The Layout behind the putting of a file of this size, which a room takes."""
    rank = room_for(layout, size)
    if rank is None:
        raise Misfit("room")
    regions = _with_thing(layout.regions, rank, ("file", layout.puts, size))
    return laid(layout.q, layout.puts + 1, regions)


def file_at(layout, serial):
    """Of a file of the layout (rank of its region, whether it lies in the payload, size); else None."""
    if not is_integer(serial):
        return None
    for rank, payload, room in layout.regions:
        for in_payload, things in ((True, payload), (False, room)):
            for word, number, size in things:
                if word == "file" and number == serial:
                    return (rank, in_payload, size)
    return None


def dropped(layout, serial):
    """The Layout behind the dropping of a file, if it lies in a room or a room takes its shade."""
    check_layout(layout)
    found = file_at(layout, serial)
    if found is None:
        raise BadNumber("serial")
    _, in_payload, size = found
    regions = tuple([(rank, _renamed(payload, serial, "hole"), _renamed(room, serial, "gone"))
                     for rank, payload, room in layout.regions])
    if in_payload:
        host = rank_taking(layout.q, regions, size)
        if host is None:
            raise Misfit("room")
        regions = _with_thing(regions, host, ("shade", serial, size))
    return laid(layout.q, layout.puts, regions)


def _with_thing(regions, rank, thing):
    return tuple([(each, payload, room + (thing,)) if each == rank else (each, payload, room)
                  for each, payload, room in regions])


def _renamed(things, serial, word):
    return tuple([(word, serial, thing[2]) if thing[:2] == ("file", serial) else thing for thing in things])
