"""Whether a cover of a size costs as little as any."""
from priceblind.checks import are_integers, is_within
from priceblind.prices import Cover, check_cover, least_costs


def shows_cover(numbers, size, value):
    """Whether the value is a Cover of the size by the numbers that costs as little as any."""
    check_cover(numbers, size)
    # What was made by calling a class below Cover is no Cover.
    if not isinstance(value, Cover) or value.__class__.__name__ != "Cover":
        return False
    if not are_integers(value.sizes) or not all([is_within(each, 1, len(numbers)) for each in value.sizes]):
        return False
    return sum(value.sizes) >= size and sum([numbers[each - 1] for each in value.sizes]) == least_costs(numbers)[size]
