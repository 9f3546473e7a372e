"""What a deed makes of a layout."""
from priceblind.deeds import needs_tidying
from priceblind.layouts import dropped, put_in
from priceblind.tidyings import tidying


def step(layout, deed):
    """The Layout behind a deed that can be done, and its Tidying, None if it needs none."""
    word, number = deed
    if needs_tidying(layout, deed):
        told = tidying(layout, deed)
        return told.layout, told
    if word == "put":
        return put_in(layout, number), None
    return dropped(layout, number), None
