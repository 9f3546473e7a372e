"""Enemies: histories that come near the bounds, or for which first fit needs far more."""
from priceblind.checks import GREATEST_SIZE, is_size, is_within
from priceblind.errors import BadNumber, TooMany
from priceblind.fits import Strip
from priceblind.histories import MOST_DEEDS, History
from priceblind.layouts import check_q
from priceblind.regions import rank_by

MOST_TURNS = 1000
MOST_ROUNDS = 8


def fullest(q):
    """The length is as great as it may be by what is live."""
    check_q(q)
    return History(q, [("put", 1)] * q + [("drop", 0)])


def dear(q, t, u, turns):
    """Files of the size t are copied in each turn, for the deeds of few files of the size u."""
    check_q(q)
    if not is_within(t, 2, GREATEST_SIZE):
        raise BadNumber("t")
    if not is_size(u) or rank_by(u) >= rank_by(t):
        raise BadNumber("u")
    if not is_within(turns, 1, MOST_TURNS):
        raise BadNumber("turns")
    many = turns * (t // u) + 1
    if q + 2 * many > MOST_DEEDS:
        raise TooMany("deeds", MOST_DEEDS)
    pairs = [[("put", u), ("drop", serial)] for serial in range(q, q + many)]
    return History(q, [("put", t)] * q + [deed for pair in pairs for deed in pair])


def scattered(q, k):
    """First fit needs ever more cells, however few are live."""
    check_q(q)
    if not is_within(k, 1, MOST_ROUNDS):
        raise BadNumber("k")
    strip = Strip()
    deeds = [("put", 1)] * (2 << k)
    strip.do(deeds)
    for number in range(1, k + 1):
        told = _drops(strip, 1 << number) + [("put", 1 << number)] * (1 << (k - number))
        strip.do(told)
        deeds = deeds + told
    return History(q, deeds)


def _drops(strip, step):
    """The drops, serials ascending, of all files that end at no multiple of the step."""
    serials = sorted([serial for _, end, serial in strip.lying if end % step != 0])
    return [("drop", number) for number in serials]
