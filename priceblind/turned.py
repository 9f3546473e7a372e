"""The records to which a book is turned: a whole state at rest, told part by part."""
from priceblind.books import name_number, name_or_none
from priceblind.errors import BadLayout, BadNumber
from priceblind.layouts import Layout
from priceblind.regions import ascend, files_of

MOST_FILES = 200
MOST_VIEWS = 20
# The number of a kind is its place here.
KINDS = ("file", "hole", "gone", "shade")
TURNED_WORDS = ("start", "region", "thing", "named", "seen", "viewed")


def turned_records(layout, names, views, begun):
    """The turned records of the state at rest with these parts."""
    rows = [("start", layout.q, layout.puts, begun)]
    for rank, payload, room in layout.regions:
        rows = rows + [("region", rank)] + _things_told(0, payload) + _things_told(1, room)
    rows = rows + [("named", serial, name_number(name)) for name, serial in names]
    for view, pairs in views:
        rows = rows + [("seen", view)] + [("viewed", view, serial, name_number(name)) for name, serial in pairs]
    return tuple(rows)


def _things_told(where, things):
    return [("thing", where, KINDS.index(word), serial, size) for word, serial, size in things]


def many_turned(records):
    """How many of the records, from the first one on, may be those to which a book was turned."""
    many = 0
    while many < len(records) and records[many][0] in TURNED_WORDS:
        many += 1
    return many


def parts_told(records):
    """The parts (layout, names, views, begun) of the state at rest whose turned records these are.

    None if there is no such state.
    """
    if len(records) == 0 or records[0][0] != "start":
        return None
    _, q, puts, begun = records[0]
    gathered = _gathered(records[1:])
    if gathered is None:
        return None
    regions, names, views = gathered
    try:
        layout = Layout(q, puts, regions)
    except (BadNumber, BadLayout):
        return None
    if not _are_at_rest(layout, names, views, begun):
        return None
    # What was gathered shows nothing of the order in which parts of different kinds stood.
    if turned_records(layout, names, views, begun) != tuple(records):
        return None
    return layout, names, views, begun


def _gathered(records):
    """The regions, the names and the views that records tell, None where one has no place or no name."""
    regions, names, views = [], [], []
    for word, *numbers in records:
        if word == "region":
            regions.append((numbers[0], ([], [])))
        elif word == "thing" and regions != [] and numbers[0] < 2 and numbers[1] < len(KINDS):
            where, kind, serial, size = numbers
            regions[-1][1][where].append((KINDS[kind], serial, size))
        elif word == "named":
            names.append((name_or_none(numbers[1]), numbers[0]))
        elif word == "seen":
            views.append((numbers[0], []))
        elif word == "viewed" and views != []:
            views[-1][1].append((name_or_none(numbers[2]), numbers[1]))
        else:
            return None
    if None in [name for pairs in pairs_of(names, views) for name, _ in pairs]:
        return None
    regions = [(rank, payload, room) for rank, (payload, room) in regions]
    return regions, tuple(names), tuple([(view, tuple(pairs)) for view, pairs in views])


def _are_at_rest(layout, names, views, begun):
    serials = [serial for serial, _ in files_of(layout.regions)]
    if len(serials) > MOST_FILES or len(views) > MOST_VIEWS:
        return False
    numbers = [view for view, _ in views]
    if not ascend(numbers + [begun]):
        return False
    all_pairs = pairs_of(names, views)
    if not all([ascend(_names_in(pairs)) for pairs in all_pairs]):
        return False
    named = sorted(set([(serial, name) for pairs in all_pairs for name, serial in pairs]))
    # Each file has a name, or a view has it; and it has one name wherever it stands.
    return [serial for serial, _ in named] == sorted(serials)


def _names_in(pairs):
    return [name for name, _ in pairs]


def pairs_of(names, views):
    """The pairs (name, serial) of the names and of each view: a list of tuples of pairs."""
    return [names] + [pairs for _, pairs in views]
