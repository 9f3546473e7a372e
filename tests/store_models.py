"""A store as the document tells it: what each call writes, stroke by stroke and flush by flush."""
import copy

from priceblind.books import name_number
from priceblind.disks import Disk
from test_books import WHOLE, row
from test_states import Model

LETTERS = "abcdefghijklmnopqrstuvwxyz"


def names_from(many):
    """So many names, the short ones first."""
    short = list(LETTERS) + [one + other for one in LETTERS for other in LETTERS]
    return short[:many]


class Logged(Disk):
    """A disk that keeps what was done to it: strokes ((track, at), value) and flushes, in their order."""

    def __init__(self):
        super().__init__()
        self.log = []

    def write(self, track, at, values):
        super().write(track, at, values)
        self.log += [((track, at + number), value) for number, value in enumerate(values)]

    def flush(self):
        super().flush()
        self.log.append("flush")

    def taken(self):
        """What was done since this was asked last."""
        log, self.log = self.log, []
        return log


class StoreModel:
    """A store without a disk, that tells what it would write."""

    def __init__(self, q):
        self.state, self.cells, self.contents = Model(q), {}, {}
        self.generation, self.rows, self.added, self.copied, self.log = 0, 0, 0, False, []
        self.turn()

    def taken(self):
        log, self.log = self.log, []
        return log

    def write(self, at, values):
        for number, value in enumerate(values):
            self.cells[at + number] = value
            self.log.append(((0, at + number), value))
        self.log.append("flush")

    def write_row(self, record):
        track, cells = 2 if self.generation % 2 else 1, row(self.generation, record)
        self.log += [((track, 6 * self.rows + number), cells[number]) for number in range(1, 6)]
        self.log += ["flush", ((track, 6 * self.rows), cells[0]), "flush"]
        self.rows += 1

    def turn(self):
        self.generation, self.rows = self.generation + 1, 0
        for record in self.state.turned() + (WHOLE,):
            self.write_row(record)
        self.added, self.copied = 0, False

    def tell(self, record):
        self.write_row(record)
        self.added += 1
        assert self.state.follow(record)

    def go_on(self):
        while self.state.copies or self.state.lost():
            if self.state.copies:
                serial, start, to = self.state.copies[0]
                self.write(to, [self.cells[start + number] for number in range(len(self.contents[serial]))])
                self.tell(("copied",))
                self.copied = True
            else:
                self.tell(("drop", self.state.lost()[0]))

    def call(self, record):
        self.tell(record)
        self.go_on()
        if self.copied or self.added >= 1000:
            self.turn()

    def put(self, name, contents):
        strip = copy.deepcopy(self.state.strip)
        serial, told = strip.puts, strip.do(("put", len(contents)))
        self.contents[serial] = tuple(contents)
        self.write(strip.files()[serial][0] if told is None else told[1], contents)
        self.call(("put", name_number(name), len(contents)))

    def drop(self, name):
        self.call(("drop", self.state.names[name]))

    def view(self):
        number = self.state.begun
        self.call(("view", number))
        return number

    def let_go(self, view):
        self.call(("letgo", view))

    def files(self):
        lies = self.state.strip.files()
        return tuple((name, serial) + lies[serial][:2] for name, serial in sorted(self.state.names.items()))

    def kept(self):
        return tuple(sorted((at, value) for at, value in self.cells.items() if value))


def contents_told(store):
    """Of a Store what its names and its views have: all contents."""
    return [[(name, store.read(name)) for name in store.names],
            [(view, [(name, store.read_in(view, name)) for name in store.names_in(view)]) for view in store.views]]


def told(store):
    """All that a Store tells, by what two of them may be compared."""
    state = store.state
    return [store.q, state.layout.puts, state.layout.regions, state.names, state.views, state.begun, state.copies,
            store.names, store.views, store.layout == state.layout, store.files()] + contents_told(store)


def random_call(rng, names, views, greatest, most_files):
    """A call that can be made to a store with these names and views: (its name, its arguments)."""
    kind = rng.random()
    if kind < 0.1 and len(views) < 20:
        return "view", ()
    if kind < 0.2 and views:
        return "let_go", (rng.choice(list(views)),)
    free = [name for name in names_from(most_files) if name not in names]
    if names and (kind < 0.55 or not free):
        return "drop", (rng.choice(list(names)),)
    size = rng.choice([rng.randint(1, greatest), rng.randint(1, min(3, greatest)), greatest])
    return "put", (rng.choice(free), [rng.randint(0, 2 ** 63 - 1) for _ in range(size)])
