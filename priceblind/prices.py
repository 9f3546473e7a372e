"""Prices: what files of each size cost to write, and what a history costs by them."""
from priceblind.checks import is_within
from priceblind.errors import BadNumber, BadPrices, Impossible, Misfit
from priceblind.histories import sizes_to_price
from priceblind.layouts import check_q
from priceblind.papers import Denial, Paper, fixed
from priceblind.regions import doublings_to, rank_by

MOST_IN_TABLE = 400


class Falls(Denial):
    """No prices: this size costs less than the one ahead of it."""

    def __init__(self, size):
        super().__init__("falls", size)
        self.size = fixed(size)


class Tears(Denial):
    """No prices: one size and the other one cost less than what they are together."""

    def __init__(self, one, other):
        super().__init__("tears", one, other)
        self.one = fixed(one)
        self.other = fixed(other)


class Cover(Paper):
    """Sizes that add up to a size or more."""

    def __init__(self, sizes):
        super().__init__("cover", sizes)
        self.sizes = fixed(sizes)


def _are_numbers(value):
    if not isinstance(value, (list, tuple)) or not is_within(len(value), 1, MOST_IN_TABLE):
        return False
    return all([is_within(number, 0, None) for number in value])


def _check_numbers(value, part):
    if not _are_numbers(value):
        raise BadPrices(part)


def _fall_in(table):
    """The Falls of the first size that costs less than the one ahead of it, None if there is none."""
    for size in range(2, len(table) + 1):
        if table[size - 1] < table[size - 2]:
            return Falls(size)
    return None


def _tear_in(table):
    """The Tears of the least two sizes that cost less than what they are together, None if there are none."""
    for both in range(2, len(table) + 1):
        for one in range(1, both // 2 + 1):
            if table[both - 1] > table[one - 1] + table[both - one - 1]:
                return Tears(one, both - one)
    return None


def _flaw_in(table):
    """The denial that shows that numbers are no prices, None if they are."""
    flaw = _fall_in(table)
    return _tear_in(table) if flaw is None else flaw


def is_prices(table):
    """Whether any value is a list of prices."""
    return _are_numbers(table) and _flaw_in(table) is None


class Prices:
    """What files of 1, 2, .. cells cost to write. They never change."""

    def __init__(self, table):
        _check_numbers(table, "table")
        flaw = _flaw_in(table)
        if flaw is not None:
            raise Impossible(flaw)
        self.table = fixed(table)

    def __eq__(self, other):
        return isinstance(other, Prices) and self.table == other.table


def least_costs(numbers):
    """The least that a cover costs, for the sizes 0, 1, .. as far as the numbers reach."""
    costs = [0]
    for size in range(1, len(numbers) + 1):
        costs.append(min([_cost_from(numbers, costs, size, first) for first in range(1, len(numbers) + 1)]))
    return costs


def _cost_from(numbers, costs, size, first):
    """The least that a cover of the size costs that has this one among its sizes."""
    return numbers[first - 1] + costs[max(0, size - first)]


def below(numbers):
    """The greatest Prices below the numbers."""
    _check_numbers(numbers, "numbers")
    return Prices(least_costs(numbers)[1:])


def check_cover(numbers, size):
    """Raises an error for what are no numbers, or no size that they reach."""
    _check_numbers(numbers, "numbers")
    if not is_within(size, 1, len(numbers)):
        raise BadNumber("size")


def cover(numbers, size):
    """A Cover of the size that costs least."""
    check_cover(numbers, size)
    costs = least_costs(numbers)
    found = []
    while size > 0:
        firsts = [first for first in range(1, len(numbers) + 1)
                  if _cost_from(numbers, costs, size, first) == costs[size]]
        found.append(firsts[0])
        size -= firsts[0]
    return Cover(found)


def _cheapest_sizes(table):
    """By rank the first size of this rank or a lesser one, of those of which a cell costs least."""
    found = {}
    cheapest = 1
    for size in range(1, len(table) + 1):
        if table[size - 1] * cheapest < table[cheapest - 1] * size:
            cheapest = size
        found[rank_by(size)] = cheapest
    return found


def _steepness_at(table, t, u):
    """f(t) u / (f(u) t) as the pair of what stands above and below the line."""
    return table[t - 1] * u, table[u - 1] * t


def steepness(table):
    """The first pair (t, u) of sizes at which the steepness of the numbers is reached."""
    _check_numbers(table, "table")
    if 0 in table:
        raise BadPrices("table")
    cheapest = _cheapest_sizes(table)
    best = (1, 1)
    greatest, unit = 1, 1
    for t in range(1, len(table) + 1):
        u = cheapest[rank_by(t)]
        upper, lower = _steepness_at(table, t, u)
        if upper * unit > greatest * lower:
            best = (t, u)
            greatest, unit = upper, lower
    return best


def cost(table, history):
    """What the history costs by the numbers, and what its deeds cost."""
    _check_numbers(table, "table")
    of_writes, of_deeds = sizes_to_price(history)
    if max(of_deeds, default=0) > len(table):
        raise Misfit("sizes")
    return _sum_by(table, of_writes), _sum_by(table, of_deeds)


def _sum_by(table, of_files):
    return sum([table[size - 1] for size in of_files])


def most(q):
    """How many times what the deeds cost all writes cost at most, by any prices."""
    check_q(q)
    return 3 + 16 * q * (3 + doublings_to(q))


def most_for(q, table):
    """How many times what the deeds cost all writes cost at most by these numbers, rounded up."""
    check_q(q)
    t, u = steepness(table)
    upper, lower = _steepness_at(table, t, u)
    return 3 - (-8 * q * (3 + doublings_to(q)) * upper) // lower
