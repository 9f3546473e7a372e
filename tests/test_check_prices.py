import itertools
import random
import unittest

from priceblind import check_prices
from priceblind.check_prices import shows_cover
from priceblind.errors import BadNumber, BadPrices
from priceblind.papers import Denial, Paper
from priceblind.prices import Cover, below, cover
from test_prices import GREATEST, NO_NUMBERS, least_cost, random_table
from values import HUGE, NO_INTEGERS, NO_OBJECTS, Case, out_of


class Shown(Case):
    def test_example_of_the_interface(self):
        self.same([shows_cover([1, 4, 2], 2, value) for value in (Cover([1, 1]), Cover([3]), Cover([2]), Cover([1]), (1, 1))],
                  [True, True, False, False, False])

    def test_defined_here(self):
        self.assertEqual(shows_cover.__module__, check_prices.__name__)
        self.same(shows_cover(numbers=[1, 4, 2], size=2, value=Cover(sizes=(1, 1))), True)

    def test_all_small_covers(self):
        rng = random.Random(1)
        for _ in range(60):
            numbers = random_table(rng, 5)
            for size in range(1, len(numbers) + 1):
                least = least_cost(numbers, size)
                for many in range(5):
                    for told in itertools.product(range(1, len(numbers) + 1), repeat=many):
                        right = sum(told) >= size and sum(numbers[each - 1] for each in told) == least
                        self.same(shows_cover(numbers, size, Cover(told)), right)

    def test_what_cover_tells(self):
        rng = random.Random(2)
        for _ in range(60):
            numbers = random_table(rng, 40)
            for size in range(1, len(numbers) + 1):
                told = list(cover(numbers, size).sizes)
                rng.shuffle(told)
                self.same(shows_cover(tuple(numbers), size, Cover(told)), True)
                self.same(shows_cover(numbers, size, Cover(told + [len(numbers)])),
                          numbers[-1] == 0)

    def test_sizes_that_cannot_stand(self):
        numbers = [1, 2, 3]
        for wrong in NO_INTEGERS + [0, -1, 4, HUGE, -HUGE]:
            for told in ([wrong], [1, 1, wrong], [wrong, 3], [3, wrong]):
                self.same(shows_cover(numbers, 3, Cover(told)), False)
            if not isinstance(wrong, (list, tuple)):
                self.same(shows_cover(numbers, 3, Cover(wrong)), False)
        # True and False stand for no number: else these would do.
        self.same([shows_cover(numbers, 3, Cover([True, 2])), shows_cover([0], 1, Cover([1, 1])), shows_cover([0], 1, Cover([True])),
                   shows_cover(numbers, 3, Cover([1, 2])), shows_cover(numbers, 3, Cover([])), shows_cover([0, 0], 1, Cover(()))],
                  [False, True, False, True, False, False])

    def test_what_is_no_cover(self):
        class Mine(Cover):
            pass

        for value in NO_OBJECTS + [[1, 1], (1, 1), Cover, Mine([1, 1]), Paper("cover", [1, 1]), Denial("cover", [1, 1]),
                                   {"sizes": [1, 1]}, [Cover([1, 1])], Cover([[1, 1]]), Cover([Cover([1, 1])])]:
            self.same(shows_cover([1, 4, 2], 2, value), False)

    def test_errors_of_cover(self):
        for value in NO_NUMBERS:
            self.bad(BadPrices, "numbers", shows_cover, value, None, None)
        for numbers in ([1], [3, 4, 5]):
            for size in out_of(1, len(numbers)):
                self.bad(BadNumber, "size", shows_cover, numbers, size, Cover([1]))

    def test_400_numbers_and_long_covers(self):
        rng = random.Random(3)
        numbers = [rng.randint(1, GREATEST) for _ in range(400)]
        for size in (1, 137, 400):
            self.same(shows_cover(numbers, size, cover(numbers, size)), True)
            self.same(shows_cover(numbers, size, Cover(cover(numbers, size).sizes + (1,))), False)
        self.same([shows_cover([0, 0], 2, Cover([1] * 19000)), shows_cover([1, 9], 2, Cover([1] * 19000))], [True, False])
        self.same(shows_cover(below(numbers).table, 400, Cover([400])), True)


if __name__ == "__main__":
    unittest.main()
