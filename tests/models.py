"""Layouts and tidyings once more, in another and plainer way than the package's: cell by cell."""
import random


def rank(size):
    return max(r for r in range(13) if 2 ** r <= size)


class Strip:
    """A layout that changes: regions are lists [rank, payload, room], things are lists [word, serial, size]."""

    def __init__(self, q, puts=0, regions=()):
        self.q = q
        self.puts = puts
        self.regions = [[r, [list(thing) for thing in payload], [list(thing) for thing in room]]
                        for r, payload, room in regions]

    def parts(self):
        return tuple((r, tuple(map(tuple, payload)), tuple(map(tuple, room))) for r, payload, room in self.regions)

    def cells(self):
        """For each cell of the strip (rank of its region, "payload" or "room", its thing or None)."""
        row = []
        for r, payload, room in self.regions:
            full = [(r, "payload", thing) for thing in payload for _ in range(thing[2])]
            used = [(r, "room", thing) for thing in room for _ in range(thing[2])]
            row += full + used + [(r, "room", None)] * (len(full) // self.q - len(used))
        return row

    def free(self, r):
        return sum(1 for each, _, thing in self.cells() if each == r and thing is None)

    def files(self):
        """By serial (place, size, "payload" or "room", rank of the region)."""
        found = {}
        for at, (r, zone, thing) in enumerate(self.cells()):
            if thing is not None and thing[0] == "file":
                found.setdefault(thing[1], (at, thing[2], zone, r))
        return found

    def host(self, size):
        ranks = [region[0] for region in self.regions if region[0] >= rank(size) and self.free(region[0]) >= size]
        return min(ranks, default=None)

    def region(self, r):
        return [region for region in self.regions if region[0] == r][0]

    def do(self, deed):
        """Does a deed; returns None, or the (rank, far, copies) of its tidying."""
        word, number = deed
        if word == "put":
            host = self.host(number)
            if host is None:
                return self.tidy(number, None)
            self.region(host)[2].append(["file", self.puts, number])
            self.puts += 1
            return None
        _, size, zone, r = self.files()[number]
        thing = [thing for thing in self.region(r)[1] + self.region(r)[2] if thing[:2] == ["file", number]][0]
        if zone == "room":
            thing[0] = "gone"
            return None
        host = self.host(size)
        if host is None:
            return self.tidy(None, number)
        thing[0] = "hole"
        self.region(host)[2].append(["shade", number, size])
        return None

    def least_rank(self, size):
        b = rank(size)
        while True:
            lesser = {rank(thing[2]) for r, _, room in self.regions if r >= b for thing in room
                      if rank(thing[2]) < b}
            if not lesser:
                return b
            b = min(lesser)

    def set_out(self, b, put, drop):
        """The regions behind a tidying from b are set out; the copies are not told."""
        files = {serial: size for serial, (_, size, _, r) in self.files().items() if r >= b and serial != drop}
        if put is not None:
            files[self.puts] = put
            self.puts += 1
        self.regions = [region for region in self.regions if region[0] < b]
        for r in sorted({rank(size) for size in files.values()}):
            self.regions.append([r, [["file", serial, size] for serial, size in sorted(files.items())
                                     if rank(size) == r], []])

    def tidy(self, put, drop):
        b = self.least_rank(put if put is not None else self.files()[drop][1])
        old, old_cells = self.files(), self.cells()
        old.pop(drop, None)
        begin = sum(1 for r, _, _ in old_cells if r < b)
        serial = self.puts
        self.set_out(b, put, drop)
        new = self.files()
        far = max(len(old_cells), len(self.cells()))
        lies = {each: old[each][0] for each in old}
        copies = []
        spare = far
        if put is not None:
            lies[serial] = far
            spare += put

        def copy(each, to):
            size = new[each][1]
            if lies[each] == to:
                return
            if old.get(each, (0, 0, ""))[2] == "payload" and abs(to - lies[each]) < size:
                copies.append((each, lies[each], spare))
                copies.append((each, spare, to))
            else:
                copies.append((each, lies[each], to))
            lies[each] = to

        rooms = [each for each in sorted(old, key=lambda each: old[each][0]) if old[each][2:] >= ("room", b)]
        payloads = [each for each in sorted(old, key=lambda each: old[each][0])
                    if old[each][2] == "payload" and old[each][3] >= b]
        behind = spare
        for each in rooms:
            copies.append((each, lies[each], behind))
            lies[each] = behind
            behind += old[each][1]
        spare = behind
        at = begin
        for each in payloads:
            copy(each, at)
            at += old[each][1]
        for each in payloads[::-1]:
            copy(each, new[each][0])
        for each in sorted([each for each in lies if lies[each] >= far], key=lambda each: new[each][0]):
            copy(each, new[each][0])
        return b, far, tuple(copies)


def is_let(q, puts, regions):
    """Whether [5] lets there be a layout of these well formed regions, sentence by sentence."""
    strip = Strip(q, puts, regions)
    ranks = [region[0] for region in regions]
    if ranks != sorted(ranks) or len(ranks) != len(set(ranks)):
        return False
    rows = [(r, zone, thing) for r, payload, room in regions
            for zone, things in (("payload", payload), ("room", room)) for thing in things]
    for r, payload, room in regions:
        serials = [thing[1] for thing in payload]
        if not payload or serials != sorted(serials):
            return False
        if sum(thing[2] for thing in room) > sum(thing[2] for thing in payload) // q:
            return False
        for word, serial, size in room:
            if rank(size) > r:
                return False
            if word != "shade" and any(own == rank(size) and serial <= thing[1]
                                       for own, things, _ in regions for thing in things):
                return False
            if any(rank(size) <= own < r and strip.free(own) >= size for own in ranks):
                return False
        if any(rank(thing[2]) != r for thing in payload):
            return False
    for one, (_, _, thing) in enumerate(rows):
        for _, _, other in rows[:one]:
            if thing[1] == other[1] and {thing[0], other[0]} != {"hole", "shade"}:
                return False
        match = {"hole": "shade", "shade": "hole"}.get(thing[0])
        if match and sum(1 for _, _, other in rows if tuple(other) == (match,) + tuple(thing[1:])) != 1:
            return False
        if thing[1] >= puts:
            return False
    return True


def random_deeds(seed, many, most_files=200):
    """A q and deeds that can be done: sizes and droppings of a kind that the seed chooses."""
    rng = random.Random(seed)
    q = rng.choice([2, 2, 3, 4, 7, 64])
    greatest = rng.choice([1, 2, 4, 9, 40, 300, 4096])
    droppings = rng.choice([0.1, 0.4, 0.5, 0.6])
    deeds, files, puts = [], [], 0
    for _ in range(many):
        if files and (rng.random() < droppings or len(files) >= most_files):
            deeds.append(("drop", files.pop(rng.randrange(len(files)))))
        else:
            deeds.append(("put", rng.choice([rng.randint(1, greatest), rng.randint(1, min(3, greatest)), greatest])))
            files.append(puts)
            puts += 1
    return q, deeds
