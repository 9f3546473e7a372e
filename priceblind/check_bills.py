"""Whether a bill is right for a history, whoever made it."""
from priceblind.bills import Bill
from priceblind.checks import are_integers, is_integer, is_within
from priceblind.histories import check_history, sizes
from priceblind.regions import ascend, cells_of, doublings_to, rank_by
from priceblind.tidied import regions_from, tidied


def shows_bill(history, value):
    """Whether the value is a Bill that is right for the history."""
    check_history(history)
    # What was made by calling a class below Bill is no Bill.
    if not isinstance(value, Bill) or value.__class__.__name__ != "Bill" or not _are_rows(value.rows):
        return False
    if _without_payers(value.rows) != _wanted(history):
        return False
    of_deeds = sizes(history)
    parts = [(number, part) for number, _, of_row in value.rows for part in of_row]
    if not all([_pay_enough(history.q, of_deeds, number, part) for number, part in parts]):
        return False
    return _pay_seldom(history.q, [part[2] for _, part in parts])


def _are_rows(value):
    return isinstance(value, tuple) and all([_is_row(row) for row in value])


def _is_row(value):
    if not _are_two_numbers_and_more(value) or not isinstance(value[2], tuple):
        return False
    return all([_are_two_numbers_and_more(part) and _are_payers(part[2]) for part in value[2]])


def _are_two_numbers_and_more(value):
    return isinstance(value, tuple) and len(value) == 3 and are_integers(value[:2])


def _are_payers(value):
    if not isinstance(value, tuple) or len(value) != 2 or not isinstance(value[0], str):
        return False
    word, told = value
    if word == "room":
        return are_integers(told) and len(told) > 0 and ascend(told)
    return word == "passed" and is_integer(told)


def _without_payers(rows):
    return [(number, rank, [part[:2] for part in parts]) for number, rank, parts in rows]


def _wanted(history):
    """What the rows of a right bill are, but for the payers."""
    return [(number, rank, [(region[0], cells_of(region[1])) for region in regions_from(layout, rank)])
            for number, rank, layout in tidied(history)]


def _numbers_in(payers):
    word, told = payers
    return told if word == "room" else (told,)


def _pay_enough(q, of_deeds, last, part):
    """Whether the payers of a region are deeds up to the last one that may pay, and bear its payload."""
    rank, cells, payers = part
    numbers = _numbers_in(payers)
    if not all([is_within(number, 0, last) for number in numbers]):
        return False
    of_payers = [of_deeds[number] for number in numbers]
    return all([rank_by(size) <= rank for size in of_payers]) and cells < 2 * q * sum(of_payers)


def _pay_seldom(q, all_payers):
    """Whether no deed pays too often: once for what it lay with, L + 2 times for what it passed over."""
    in_rooms = [number for payers in all_payers if payers[0] == "room" for number in payers[1]]
    if len(set(in_rooms)) != len(in_rooms):
        return False
    times = {}
    for word, told in all_payers:
        if word == "passed":
            times[told] = times.get(told, 0) + 1
    return max(list(times.values()), default=0) <= doublings_to(q) + 2
