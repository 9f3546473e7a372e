"""Whether copies lead from a layout to the one behind a tidying."""
from priceblind.checks import are_integers
from priceblind.layouts import places
from priceblind.regions import files_of
from priceblind.tidyings import tidying, written_first


def shows_copies(layout, deed, value):
    """Whether the value is a right row of copies for the deed's tidying, however they are chosen."""
    told = tidying(layout, deed)
    if not _are_copies(value):
        return False
    made = told.layout
    sizes = {serial: size for serial, size in files_of(made.regions)}
    lies, _ = written_first(layout, made, told.far)
    # The dropped one has no cells from the first copy on.
    lies = {serial: place for serial, place in lies.items() if serial in sizes}
    for serial, start, to in value:
        if lies.get(serial) != start or not _is_free(lies, sizes, to, sizes[serial]):
            return False
        lies[serial] = to
    return lies == {serial: place for serial, place, _ in places(made)}


def _are_copies(value):
    if not isinstance(value, (list, tuple)):
        return False
    return all([are_integers(copy) and len(copy) == 3 for copy in value])


def _is_free(lies, sizes, to, size):
    """Whether these cells are on the strip, and no file has one of them."""
    if to < 0:
        return False
    return not any([place < to + size and to < place + sizes[serial] for serial, place in lies.items()])
