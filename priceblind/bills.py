"""Bills: who pays for what tidyings set out anew, by no price list."""
from priceblind.histories import check_history, sizes
from priceblind.papers import Paper, fixed
from priceblind.regions import LAST_RANK, cells_of, rank_by
from priceblind.tidied import regions_from, tidied
from priceblind.tidyings import falls


class Bill(Paper):
    """For each deed that sets regions out anew a row that tells them, and the deeds that pay."""

    def __init__(self, rows):
        super().__init__("bill", rows)
        self.rows = fixed(rows)


def bill(history):
    """A right Bill of the history."""
    check_history(history)
    numbers = _numbers_by_deed(history)
    of_deeds = sizes(history)
    rows = []
    for number, rank, layout in tidied(history):
        passers = _passers(layout, (number, of_deeds[number]), numbers)
        parts = [_part(region, passers, numbers) for region in regions_from(layout, rank)]
        rows.append((number, rank, parts))
    return Bill(rows)


def _numbers_by_deed(history):
    """The numbers of the deeds by (word, serial of the file)."""
    numbers = {}
    puts = 0
    for number, (word, told) in enumerate(history.deeds):
        if word == "put":
            numbers[(word, puts)] = number
            puts += 1
        else:
            numbers[(word, told)] = number
    return numbers


def _laid_by(thing, numbers):
    """The number of the deed that laid a thing into a room."""
    word, serial, _ = thing
    return numbers[("drop" if word == "shade" else "put", serial)]


def _passers(layout, deed, numbers):
    """By rank the (number, size) of a deed that passed over the region of this rank, if there is one."""
    things = [(_laid_by(thing, numbers), thing[2]) for thing in falls(layout, deed[1])]
    passers = {}
    for number, size in [deed] + things:
        for rank in range(rank_by(size), LAST_RANK + 1):
            # What the rank fell to lies in a room of no lesser rank than it had ahead: up to there it passed over all.
            passers.setdefault(rank, (number, size))
    return passers


def _part(region, passers, numbers):
    rank, payload, room = region
    number, size = passers[rank]
    # The payload has less than q times what is used and the passing file have together.
    if size > cells_of(room):
        payers = ("passed", number)
    else:
        payers = ("room", sorted([_laid_by(thing, numbers) for thing in room]))
    return (rank, cells_of(payload), payers)
