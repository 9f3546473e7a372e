"""States of a store, and how one follows another by the records of its book."""
from priceblind.books import are_records, is_record, name_or_none
from priceblind.checks import is_size
from priceblind.errors import BadDeeds, BadStore, Misfit
from priceblind.layouts import empty
from priceblind.regions import files_of
from priceblind.steps import step
from priceblind.turned import MOST_FILES, MOST_VIEWS, many_turned, pairs_of, parts_told, turned_records


class State:
    """What a store has: made by the functions of this file alone, never changed."""

    def __init__(self, layout, names, views, begun, copies):
        self.layout = layout
        self.names = names
        self.views = views
        self.begun = begun
        self.copies = copies

    def __eq__(self, other):
        return (isinstance(other, State) and self.layout == other.layout and self.names == other.names
                and self.views == other.views and self.begun == other.begun and self.copies == other.copies)


def check_state(state):
    """Raises an error for what is no State."""
    if not isinstance(state, State):
        raise BadStore("state")


def first_state(q):
    """The state in which nothing was ever put."""
    return State(empty(q), (), (), 0, ())


def _viewed(state, serial):
    """Whether a view has the file."""
    return any([each == serial for _, pairs in state.views for _, each in pairs])


def unowned(state):
    """The serials of all files that neither a name nor a view has, ascending."""
    check_state(state)
    owned = {serial: True for pairs in pairs_of(state.names, state.views) for _, serial in pairs}
    return tuple(sorted([serial for serial, _ in files_of(state.layout.regions) if serial not in owned]))


def _done(state, deed, names):
    layout, told = step(state.layout, deed)
    copies = () if told is None else told.copies
    return State(layout, names, state.views, state.begun, copies)


def _after_put(state, number, size):
    name = name_or_none(number)
    if name is None or name in [each for each, _ in state.names] or not is_size(size):
        raise Misfit("record")
    if len(files_of(state.layout.regions)) >= MOST_FILES:
        raise Misfit("record")
    names = sorted(state.names + ((name, state.layout.puts),))
    return _done(state, ("put", size), tuple(names))


def _after_drop(state, serial):
    names = tuple([pair for pair in state.names if pair[1] != serial])
    if names == state.names:
        raise Misfit("record")
    if _viewed(state, serial):
        return State(state.layout, names, state.views, state.begun, ())
    return _done(state, ("drop", serial), names)


def _after_view(state, number):
    if number != state.begun or len(state.views) >= MOST_VIEWS:
        raise Misfit("record")
    views = state.views + ((number, state.names),)
    return State(state.layout, state.names, views, state.begun + 1, ())


def _after_letgo(state, number):
    views = tuple([view for view in state.views if view[0] != number])
    if views == state.views:
        raise Misfit("record")
    return State(state.layout, state.names, views, state.begun, ())


FOLLOWING = {"put": _after_put, "drop": _after_drop, "view": _after_view, "letgo": _after_letgo}


def after(state, record):
    """The State that the record leads to."""
    check_state(state)
    if not is_record(record):
        raise BadDeeds("record")
    told = tuple(record)
    if state.copies != ():
        return _after_copied(state, told)
    spare = unowned(state)
    if spare != ():
        return _after_clearing(state, told, spare[0])
    if told[0] not in FOLLOWING:
        raise Misfit("record")
    action = FOLLOWING[told[0]]
    numbers = told[1:]
    return action(state, *numbers)


def _after_copied(state, told):
    if told != ("copied",):
        raise Misfit("record")
    return State(state.layout, state.names, state.views, state.begun, state.copies[1:])


def _after_clearing(state, told, serial):
    if told != ("drop", serial):
        raise Misfit("record")
    return _done(state, told, state.names)


def records_of(state):
    """The turned records of a state at rest."""
    check_state(state)
    if state.copies != () or unowned(state) != ():
        raise Misfit("rest")
    return turned_records(state.layout, state.names, state.views, state.begun)


def state_of(records):
    """The State that the records mean."""
    if not are_records(records):
        raise BadDeeds("records")
    told = [tuple(record) for record in records]
    many = many_turned(told)
    parts = parts_told(told[:many])
    if parts is None:
        raise Misfit("records")
    layout, names, views, begun = parts
    state = State(layout, names, views, begun, ())
    try:
        for record in told[many:]:
            state = after(state, record)
    except Misfit:
        raise Misfit("records") from None
    return state
