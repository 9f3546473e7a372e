"""Stores: files on the strip of a disk, kept whole through any cut of the power."""
from priceblind.books import Book, name_number
from priceblind.checks import is_integer, is_name, is_size
from priceblind.disks import may_be_held
from priceblind.errors import BadContents, BadName, Misfit, NoFile, NoView, TooMany, Twice
from priceblind.layouts import check_q, length, places
from priceblind.regions import files_of
from priceblind.states import after, first_state, records_of, state_of, unowned
from priceblind.turned import MOST_FILES, MOST_VIEWS

# The track on which the files lie.
STRIP = 0
# A book to which so many records were added is turned, so that it stays short.
MOST_ADDED = 1000


def _are_contents(value):
    if not isinstance(value, (list, tuple)) or not is_size(len(value)):
        return False
    return all([may_be_held(item) for item in value])


def _state_on(book, q):
    """The state that a book means; if none counts the one in which nothing was ever put."""
    if q is not None:
        check_q(q)
    if book.generation == 0:
        # Without a q this raises BadNumber, as a new strip needs one.
        return first_state(q)
    try:
        state = state_of(book.records())
    except Misfit:
        raise Misfit("disk") from None
    if q is not None and q != state.layout.q:
        raise Misfit("q")
    return state


def _lies(layout):
    """By serial the place and the size of each file."""
    return {serial: (place, size) for serial, place, size in places(layout)}


def _first_place(layout, behind):
    """Where the put file is written that leads from the layout to the state behind: to its place, or to far."""
    if behind.copies == ():
        return _lies(behind.layout)[layout.puts][0]
    # A tidying with a put always has a copy, as far is behind the new place of the file.
    return max(length(layout), length(behind.layout))


def _serial_in(pairs, name):
    """The serial of the file to which the name leads, by pairs (name, serial)."""
    if isinstance(name, str):
        for each, serial in pairs:
            if each == name:
                return serial
    raise NoFile(name)


def _names_in(pairs):
    return tuple([name for name, _ in pairs])


class Store:
    """Files by names, and views of what they once were, on a disk that it keeps."""

    def __init__(self, disk, q=None):
        book = Book(disk)
        state = _state_on(book, q)
        self._disk = disk
        self._book = book
        self._take(state)
        if book.generation == 0:
            self._turn()
        self._come_to_rest()
        if book.added > 0:
            self._turn()

    def put(self, name, contents):
        """Puts a file of these contents, to which the name leads then."""
        if not is_name(name):
            raise BadName("name")
        if not _are_contents(contents):
            raise BadContents("contents")
        if name in self.names:
            raise Twice(name)
        if len(files_of(self.layout.regions)) >= MOST_FILES:
            raise TooMany("files", MOST_FILES)
        record = ("put", name_number(name), len(contents))
        # Ahead of the record the contents are whole on the disk.
        self._write(_first_place(self.layout, after(self.state, record)), contents)
        self._do(record)

    def drop(self, name):
        """Takes the name away, and drops its file if no view has it."""
        self._do(("drop", _serial_in(self.state.names, name)))

    def read(self, name):
        """The contents of the file of this name."""
        return self._contents(_serial_in(self.state.names, name))

    def size_of(self, name):
        """How many cells the file of this name has."""
        return _lies(self.layout)[_serial_in(self.state.names, name)][1]

    def files(self):
        """The rows (name, serial, place, size) of all names."""
        lies = _lies(self.layout)
        return tuple([(name, serial) + lies[serial] for name, serial in self.state.names])

    def view(self):
        """Begins a view of the names of the moment, and returns its number."""
        if len(self.views) >= MOST_VIEWS:
            raise TooMany("views", MOST_VIEWS)
        number = self.state.begun
        self._do(("view", number))
        return number

    def names_in(self, view):
        """The names that the view has."""
        return _names_in(self._pairs_of(view))

    def read_in(self, view, name):
        """The contents of the file that had this name when the view was begun."""
        return self._contents(_serial_in(self._pairs_of(view), name))

    def let_go(self, view):
        """Lets a view go, and drops the files that nobody else has."""
        self._pairs_of(view)
        self._do(("letgo", view))

    def _pairs_of(self, view):
        if is_integer(view):
            for number, pairs in self.state.views:
                if number == view:
                    return pairs
        raise NoView(view)

    def _contents(self, serial):
        place, size = _lies(self.layout)[serial]
        return self._disk.read(STRIP, place, size)

    def _take(self, state):
        self.state = state
        self.layout = state.layout
        self.q = state.layout.q
        self.names = _names_in(state.names)
        self.views = tuple([number for number, _ in state.views])

    def _write(self, at, contents):
        self._disk.write(STRIP, at, contents)
        self._disk.flush()

    def _tell(self, record):
        state = after(self.state, record)
        self._book.add(record)
        self._take(state)

    def _do(self, record):
        """Tells the record of a call, and goes on from there."""
        self._tell(record)
        copied = self._come_to_rest()
        if copied or self._book.added >= MOST_ADDED:
            self._turn()

    def _come_to_rest(self):
        """Makes the copies that are left and drops unowned files; whether a copy was made."""
        copied = self._copy_all()
        spare = unowned(self.state)
        while spare != ():
            self._tell(("drop", spare[0]))
            copied = self._copy_all() or copied
            spare = unowned(self.state)
        return copied

    def _copy_all(self):
        """Makes the copies that are left; whether there was one."""
        sizes = dict(files_of(self.layout.regions))
        copies = self.state.copies
        for serial, start, to in copies:
            self._write(to, self._disk.read(STRIP, start, sizes[serial]))
            self._tell(("copied",))
        return copies != ()

    def _turn(self):
        self._book.turn(records_of(self.state))
