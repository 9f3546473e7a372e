"""Regions as plain tuples: what lies where, and whether they make a layout.

A region is (rank, payload, room), payload and room being tuples of things (word, serial, size).
"""
from priceblind.checks import is_size, is_within

LAST_RANK = 12
PAYLOAD_WORDS = ("file", "hole")
ROOM_WORDS = ("file", "gone", "shade")


def rank_by(size):
    """The r for which 2^r is at most the size, and 2^(r + 1) above it."""
    return size.bit_length() - 1


def doublings_to(many):
    """The least L for which 2^L is so many or more."""
    return (many - 1).bit_length()


def cells_of(things):
    """How many cells the things take together."""
    return sum([size for _, _, size in things])


def room_cells(q, payload):
    """How many cells the room behind a payload has."""
    return cells_of(payload) // q


def free_cells(q, region):
    """How many cells of the region's room are free."""
    _, payload, room = region
    return room_cells(q, payload) - cells_of(room)


def things_of(regions):
    """All things, as they stand in the regions."""
    return [thing for _, payload, room in regions for thing in payload + room]


def files_of(regions):
    """Pairs (serial, size) of all files, as they stand in the regions."""
    return [(serial, size) for word, serial, size in things_of(regions) if word == "file"]


def _placed(things, at):
    rows = []
    for word, serial, size in things:
        rows.append((word, serial, at, size))
        at += size
    return rows


def placed(q, regions):
    """For each region (rank, payload, room), with rows (word, serial, place, size) for the things."""
    rows = []
    at = 0
    for rank, payload, room in regions:
        behind = at + cells_of(payload)
        rows.append((rank, _placed(payload, at), _placed(room, behind)))
        at = behind + room_cells(q, payload)
    return rows


def rank_taking(q, regions, size):
    """The rank of the first region into whose room the size goes, None if there is none."""
    for region in regions:
        if region[0] >= rank_by(size) and free_cells(q, region) >= size:
            return region[0]
    return None


def ascend(values):
    """Whether each value is above the one ahead of it."""
    return all([one < other for one, other in zip(values, values[1:])])


def are_let(q, puts, value):
    """Whether a value without lists is the regions of a layout with this q and puts."""
    if not _are_regions(puts, value):
        return False
    checks = [_ranks_fit(value), _serials_fit(value), _rooms_hold(q, value), _rooms_are_later(value)]
    return all(checks) and _have_passed(q, value)


def _is_thing(puts, words, value):
    if not isinstance(value, tuple) or len(value) != 3:
        return False
    word, serial, size = value
    return isinstance(word, str) and word in words and is_within(serial, 0, puts - 1) and is_size(size)


def _are_things(puts, words, value):
    return isinstance(value, tuple) and all([_is_thing(puts, words, thing) for thing in value])


def _is_region(puts, value):
    if not isinstance(value, tuple) or len(value) != 3:
        return False
    rank, payload, room = value
    if not is_within(rank, 0, LAST_RANK) or payload == ():
        return False
    return _are_things(puts, PAYLOAD_WORDS, payload) and _are_things(puts, ROOM_WORDS, room)


def _are_regions(puts, value):
    return isinstance(value, tuple) and all([_is_region(puts, region) for region in value])


def _ranks_fit(regions):
    for rank, payload, room in regions:
        if any([rank_by(size) != rank for _, _, size in payload]):
            return False
        if any([rank_by(size) > rank for _, _, size in room]):
            return False
    return ascend([region[0] for region in regions])


def _serials_of(things):
    return [serial for _, serial, _ in things]


def _serials_fit(regions):
    things = things_of(regions)
    holes = sorted([(serial, size) for word, serial, size in things if word == "hole"])
    shades = sorted([(serial, size) for word, serial, size in things if word == "shade"])
    # A hole and its shade have one serial, no other two things have.
    serials = [serial for word, serial, _ in things if word != "shade"]
    if holes != shades or len(set(serials)) != len(serials):
        return False
    return all([ascend(_serials_of(payload)) for _, payload, _ in regions])


def _rooms_hold(q, regions):
    return all([free_cells(q, region) >= 0 for region in regions])


def _rooms_are_later(regions):
    last = {rank: payload[-1][1] for rank, payload, _ in regions}
    for word, serial, size in [thing for _, _, room in regions for thing in room]:
        if word != "shade" and serial <= last.get(rank_by(size), -1):
            return False
    return True


def _have_passed(q, regions):
    free = {region[0]: free_cells(q, region) for region in regions}
    for rank, _, room in regions:
        for _, _, size in room:
            ahead = [free[least] for least in range(rank_by(size), rank) if least in free]
            if ahead != [] and max(ahead) >= size:
                return False
    return True
