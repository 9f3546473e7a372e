"""Histories: the run of a store without a disk."""
from priceblind.deeds import are_deeds
from priceblind.errors import BadDeeds, NoFile, TooMany
from priceblind.layouts import check_q, empty
from priceblind.papers import fixed
from priceblind.regions import files_of
from priceblind.steps import step

MOST_DEEDS = 2000


def _check_drops(deeds):
    """Raises an error for the first drop of what is no file then."""
    files = {}
    puts = 0
    for word, number in deeds:
        if word == "put":
            files[puts] = True
            puts += 1
        elif number in files:
            del files[number]
        else:
            raise NoFile(number)


class History:
    """A q and a row of deeds that are done one behind another. It never changes."""

    def __init__(self, q, deeds):
        check_q(q)
        if not are_deeds(deeds):
            raise BadDeeds("deeds")
        _check_drops(deeds)
        if len(deeds) > MOST_DEEDS:
            raise TooMany("deeds", MOST_DEEDS)
        self.q = q
        self.deeds = fixed(deeds)

    def __eq__(self, other):
        return isinstance(other, History) and self.q == other.q and self.deeds == other.deeds


def check_history(history):
    """Raises an error for what is no History."""
    if not isinstance(history, History):
        raise BadDeeds("history")


def _steps(history):
    """For each deed the pair of the Layout behind it and its Tidying, or None."""
    rows = []
    layout = empty(history.q)
    for deed in history.deeds:
        layout, told = step(layout, deed)
        rows.append((layout, told))
    return rows


def layouts(history):
    """The Layouts behind each deed."""
    check_history(history)
    return tuple([layout for layout, _ in _steps(history)])


def tidyings(history):
    """The pairs (number, Tidying) of all deeds that need a tidying."""
    check_history(history)
    return tuple([(number, told) for number, (_, told) in enumerate(_steps(history)) if told is not None])


def sizes(history):
    """The sizes of the deeds' files."""
    check_history(history)
    of_files = [number for word, number in history.deeds if word == "put"]
    return tuple([number if word == "put" else of_files[number] for word, number in history.deeds])


def writes(history):
    """For each deed the pairs (serial, size) of the files that it writes."""
    check_history(history)
    rows = []
    for deed, (layout, told) in zip(history.deeds, _steps(history)):
        rows.append(_writes_of(deed, layout, told))
    return tuple(rows)


def sizes_to_price(history):
    """The sizes of all files that the history writes, and those of its deeds."""
    return [size for row in writes(history) for _, size in row], sizes(history)


def _writes_of(deed, layout, told):
    word, number = deed
    pairs = []
    if word == "put":
        pairs.append((layout.puts - 1, number))
    if told is not None:
        of_files = {serial: size for serial, size in files_of(layout.regions)}
        pairs = pairs + [(serial, of_files[serial]) for serial, _, _ in told.copies]
    return tuple(pairs)
