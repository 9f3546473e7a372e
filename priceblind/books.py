"""Books: what was done, told by records on a disk, so that no cut leaves a doubt about it."""
from priceblind.checks import LETTERS, is_name, is_within
from priceblind.disks import check_disk, may_be_held
from priceblind.errors import BadDeeds, BadName, BadNumber, Misfit
from priceblind.rows import EVEN_TRACK, HOW_MANY, ODD_TRACK, ROW, WHOLE
from priceblind.rows import book_that_counts, cells_behind_mark, records_in, track_of

BASE = 27
BEHIND_ALL_NAMES = 27 ** 12


def name_number(name):
    """The name number of a name."""
    if not is_name(name):
        raise BadName("name")
    number = 0
    for letter in name:
        number = number * BASE + LETTERS.index(letter) + 1
    return number


def name_of(number):
    """The name with this name number."""
    name = name_or_none(number)
    if name is None:
        raise BadNumber("number")
    return name


def name_or_none(number):
    """The name with this name number, None for any value that is no name number."""
    if not is_within(number, 1, BEHIND_ALL_NAMES - 1):
        return None
    name = ""
    while number > 0:
        number, digit = divmod(number, BASE)
        if digit == 0:
            return None
        name = LETTERS[digit - 1] + name
    return name


def is_record(value):
    """Whether any value is a record, as a tuple or list."""
    if not isinstance(value, (list, tuple)) or len(value) == 0:
        return False
    word, numbers = value[0], value[1:]
    if not isinstance(word, str) or word not in HOW_MANY:
        return False
    return len(numbers) == HOW_MANY[word] and all([may_be_held(number) for number in numbers])


def are_records(value):
    """Whether any value is a list of records."""
    return isinstance(value, (list, tuple)) and all([is_record(record) for record in value])


def meant(disk):
    """The records of the book that counts, by what the disk keeps, without strokes that wait."""
    check_disk(disk)
    _, rows = book_that_counts(disk)
    return tuple(records_in(rows))


class Book:
    """The book that counts on a disk. Records are added to it, and it is turned to a new one."""

    def __init__(self, disk):
        check_disk(disk)
        generation, rows = book_that_counts(disk)
        self._disk = disk
        self._many_rows = len(rows)
        self._told = records_in(rows)
        self.generation = generation
        self.added = 0
        if generation != 0:
            self.added = len(records_in(rows[rows.index(WHOLE):]))

    def records(self):
        """The tuple of its records."""
        return tuple(self._told)

    def add(self, record):
        """Adds a record behind its last row."""
        if not is_record(record):
            raise BadDeeds("record")
        if self.generation == 0:
            raise Misfit("book")
        told = tuple(record)
        self._write_row(self.generation, self._many_rows, told)
        self._many_rows += 1
        self._told.append(told)
        self.added += 1

    def turn(self, records):
        """Makes a new book of these records, which counts from the last mark on."""
        if not are_records(records) or len(records) == 0:
            raise BadDeeds("records")
        told = [tuple(record) for record in records]
        generation = self._next_generation()
        for number, row in enumerate(told + [WHOLE]):
            self._write_row(generation, number, row)
        self.generation = generation
        self._many_rows = len(told) + 1
        self._told = told
        self.added = 0

    def _next_generation(self):
        marks = [self._disk.read(track, 0, 1)[0] for track in (EVEN_TRACK, ODD_TRACK)]
        generation = max(marks) + 1
        if self.generation != 0 and track_of(generation) == track_of(self.generation):
            generation += 1
        return generation

    def _write_row(self, generation, number, told):
        # The mark comes last, and by itself: ahead of it the row is whole on the disk.
        track, at = track_of(generation), number * ROW
        self._disk.write(track, at + 1, cells_behind_mark(told))
        self._disk.flush()
        self._disk.write(track, at, [generation])
        self._disk.flush()
