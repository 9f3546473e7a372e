"""The texts of layouts."""
from priceblind.checks import GREATEST_Q, GREATEST_SIZE, LEAST_Q, is_within
from priceblind.errors import BadText
from priceblind.regions import LAST_RANK, PAYLOAD_WORDS, ROOM_WORDS

DIGITS = "0123456789"
MOST_DIGITS = 60


def text_of(q, puts, regions):
    """The text of the layout with these attributes."""
    items = ["q", str(q), "puts", str(puts)]
    for rank, payload, room in regions:
        items = items + ["/", str(rank)] + _things_told(payload) + ["room"] + _things_told(room)
    return " ".join(items)


def _things_told(things):
    return [str(part) for thing in things for part in thing]


def parts_of(text):
    """What a text tells: (q, puts, regions), each item by itself being one that can stand."""
    if not isinstance(text, str):
        raise BadText(0)
    items = text.split(" ")
    _take_word(items, 0, ("q",))
    q = _take_number(items, 1, LEAST_Q, GREATEST_Q)
    _take_word(items, 2, ("puts",))
    puts = _take_number(items, 3, 0, None)
    return q, puts, _take_regions(items, 4, puts)


def _take_regions(items, at, puts):
    regions = []
    least = 0
    while at < len(items):
        _take_word(items, at, ("/",))
        rank = _take_number(items, at + 1, least, LAST_RANK)
        payload, at = _take_things(items, at + 2, PAYLOAD_WORDS, puts)
        _take_word(items, at, ("room",))
        room, at = _take_things(items, at + 1, ROOM_WORDS, puts)
        regions.append((rank, payload, room))
        least = rank + 1
    return regions


def _take_things(items, at, words, puts):
    """The things from an item on, and the index of the item behind them."""
    things = []
    while at < len(items) and items[at] in words:
        serial = _take_number(items, at + 1, 0, puts - 1)
        size = _take_number(items, at + 2, 1, GREATEST_SIZE)
        things.append((items[at], serial, size))
        at += 3
    return things, at


def _take_word(items, at, words):
    # An item that is missing has the number of items as its index.
    if at >= len(items) or items[at] not in words:
        raise BadText(at)


def _take_number(items, at, least, most):
    if at >= len(items) or not is_within(_number(items[at]), least, most):
        raise BadText(at)
    return int(items[at])


def _number(item):
    """The integer that is written so, None if there is none; below 0 there is none in a layout."""
    if item == "" or len(item) > MOST_DIGITS or not all([sign in DIGITS for sign in item]):
        return None
    if item[0] == "0" and item != "0":
        return None
    return int(item)
