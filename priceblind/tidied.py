"""What was tidied in a history: for which regions a bill has to tell who pays."""
from priceblind.histories import layouts, tidyings
from priceblind.layouts import empty


def tidied(history):
    """For each deed that sets regions out anew (its number, from which rank, the Layout ahead of it)."""
    ahead = (empty(history.q),) + layouts(history)
    rows = [(number, told.rank, ahead[number]) for number, told in tidyings(history)]
    return [(number, rank, layout) for number, rank, layout in rows if regions_from(layout, rank) != []]


def regions_from(layout, rank):
    """The regions of this rank or more."""
    return [region for region in layout.regions if region[0] >= rank]
