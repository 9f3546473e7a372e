"""Records, and the rows of cells in which they stand in a book."""
from priceblind.disks import LAST_CELL

# The number of a word is its place here, counted from 1.
WORDS = ("put", "drop", "copied", "view", "letgo", "start", "region", "thing", "named", "seen", "viewed", "whole")
HOW_MANY = {"put": 2, "drop": 1, "copied": 0, "view": 1, "letgo": 1, "start": 3, "region": 1, "thing": 4,
            "named": 2, "seen": 1, "viewed": 3}
WHOLE = ("whole",)
MOST_NUMBERS = 4
ROW = 6
# The track on which books of odd and of even generations lie.
ODD_TRACK = 2
EVEN_TRACK = 1


def cells_behind_mark(record):
    """The five cells behind the mark of the row in which a record, or whole, stands."""
    numbers = list(record[1:])
    return [WORDS.index(record[0]) + 1] + numbers + [0] * (MOST_NUMBERS - len(numbers))


def told_by(cells):
    """The record, or whole, that five cells behind a mark tell, None if they are no row."""
    number, numbers = cells[0], cells[1:]
    if not 1 <= number <= len(WORDS):
        return None
    word = WORDS[number - 1]
    many = HOW_MANY.get(word, 0)
    if any([each != 0 for each in numbers[many:]]):
        return None
    return (word,) + tuple(numbers[:many])


def track_of(generation):
    """The track on which books of a generation lie."""
    return ODD_TRACK if generation % 2 == 1 else EVEN_TRACK


def book_on(disk, track):
    """The generation and the rows of the book that lies on a track, 0 and none if none does."""
    cells = dict(disk.kept(track))
    generation = cells.get(0, 0)
    if generation == 0 or track_of(generation) != track:
        return 0, []
    rows = []
    at = 0
    told = _row_at(cells, at, generation)
    while told is not None:
        rows.append(told)
        at += ROW
        told = _row_at(cells, at, generation)
    return generation, rows


def _row_at(cells, at, mark):
    if at + ROW - 1 > LAST_CELL or cells.get(at, 0) != mark:
        return None
    return told_by([cells.get(cell, 0) for cell in range(at + 1, at + ROW)])


def book_that_counts(disk):
    """The generation and the rows of the book that counts, 0 and none if none does."""
    counts = (0, [])
    for track in (ODD_TRACK, EVEN_TRACK):
        generation, rows = book_on(disk, track)
        if WHOLE in rows and generation > counts[0]:
            counts = (generation, rows)
    return counts


def records_in(rows):
    """The records among rows."""
    return [row for row in rows if row != WHOLE]
