import copy
import itertools
import random
import unittest
from fractions import Fraction

from models import random_deeds
from priceblind import prices
from priceblind.errors import BadDeeds, BadNumber, BadPrices, Impossible, Misfit
from priceblind.histories import History, sizes, writes
from priceblind.papers import Denial, Paper
from priceblind.prices import (Cover, Falls, Prices, Tears, below, cost, cover, is_prices, most, most_for, steepness)
from values import HUGE, NO_INTEGERS, NO_OBJECTS, Case, out_of

RUN = History(2, [("put", 4), ("put", 1), ("put", 1), ("put", 1), ("drop", 0), ("drop", 1), ("drop", 2)])
FEES = [3, 4, 5, 6, 7, 8]
BLOCKS = [5, 5, 5, 10, 10, 10]
GREATEST = 10 ** 60 - 1
NO_NUMBERS = [value for value in NO_OBJECTS if repr(value) not in ("[1]", "(1,)", "(1, 2, 3)")] + [
    [], (), [-1], [1, -1], [-HUGE], [True], [False, 1], [1, None], ["1"], ["a"], [1.0], [[1]], [(1, 2)], ((1,),), [1, [2]],
    [0] * 401, (3,) * 5000, "12", b"12", {1: 1}, {1, 2}, range(3), [1, {}], Prices([1, 2]), [Prices([1])]]


def rank(size):
    return max(r for r in range(13) if 2 ** r <= size)


def flaw(table):
    """(word, parts) of the denial that [11] tells, straight from its words; None for prices."""
    sizes_there = range(1, len(table) + 1)
    falls = [size for size in sizes_there if size > 1 and table[size - 1] < table[size - 2]]
    if falls:
        return "falls", (falls[0],)
    tears = sorted((one + other, one, other) for one in sizes_there for other in sizes_there if one <= other
                   and one + other <= len(table) and table[one + other - 1] > table[one - 1] + table[other - 1])
    return ("tears", tears[0][1:]) if tears else None


def least_cost(numbers, size):
    """The least that a cover costs, by trying all covers of at most so many sizes."""
    found = [sum(numbers[each - 1] for each in sizes_there) for many in range(1, size + 1)
             for sizes_there in itertools.combinations_with_replacement(range(1, len(numbers) + 1), many)
             if sum(sizes_there) >= size]
    return min(found)


def steepest(table):
    pairs = [(Fraction(table[t - 1] * u, table[u - 1] * t), (-t, -u)) for t in range(1, len(table) + 1)
             for u in range(1, len(table) + 1) if rank(u) <= rank(t)]
    value, (t, u) = max(pairs)
    return value, (-t, -u)


def random_table(rng, most_there, least=0):
    kind, many = rng.randrange(5), rng.randint(1, most_there)
    if kind == 0:
        return [rng.randint(least, 9) for _ in range(many)]
    if kind == 1:
        return [rng.randint(least, GREATEST) for _ in range(many)]
    fee, cell, block, of = rng.randrange(9), rng.randint(1, 4), rng.randrange(5), rng.randint(1, 5)
    table = [fee + cell * size + block * -(-size // of) for size in range(1, many + 1)]
    if kind == 3:
        table[rng.randrange(many)] += rng.choice([-1, 1, 20])
    if kind == 4:
        table = sorted(rng.randint(least, 30) for _ in range(many))
    return [max(least, each) for each in table]


class Example(Case):
    def test_example_of_the_interface(self):
        self.same([is_prices(FEES), is_prices(BLOCKS), is_prices([1, 4]), is_prices([2, 1]), is_prices([0, 0]),
                   is_prices([])], [True, True, False, False, True, False])
        self.same([below([9, 2, 7, 9, 3]).table, below([1, 4, 2]).table, below(FEES) == Prices(FEES)],
                  [(2, 2, 3, 3, 3), (1, 2, 2), True])
        self.assertEqual([cover([9, 2, 7, 9, 3], 4), cover([9, 2, 7, 9, 3], 1), cover([1, 4, 3], 2)],
                         [Cover([5]), Cover([2]), Cover([1, 1])])
        self.same([steepness(FEES), steepness(BLOCKS), steepness([1, 8]), steepness([2, 1, 1])],
                  [(2, 3), (2, 3), (2, 1), (2, 3)])
        self.same([most(2), most(3), most(64), most_for(2, [1, 8]), most_for(2, [3, 4])], [131, 243, 9219, 259, 67])
        self.impossible(Falls(3), [1, 3, 2])
        self.impossible(Tears(1, 2), [1, 2, 4, 4])

    def impossible(self, paper, table):
        with self.assertRaises(Impossible) as caught:
            Prices(table)
        self.assertEqual(list(vars(caught.exception)), ["paper"])
        self.assertIs(type(caught.exception.paper), type(paper))
        self.assertEqual(caught.exception.paper, paper)

    def test_all_are_defined_here(self):
        for each in (Falls, Tears, Cover, Prices, is_prices, below, cover, steepness, cost, most, most_for):
            self.assertEqual(each.__module__, prices.__name__)
        for name in ("__init__", "__eq__"):
            self.assertIn(name, vars(Prices))

    def test_by_name(self):
        self.same([Prices(table=[1]).table, is_prices(table=[1]), below(numbers=[2, 1]).table, cover(numbers=[2], size=1).sizes,
                   steepness(table=[1]), cost(history=RUN, table=[1] * 4), most(q=2), most_for(table=[1], q=2)],
                  [(1,), True, (1, 1), (1,), (1, 1), (12, 7), 131, 67])


class Papers(Case):
    def test_papers_and_denials(self):
        for made, word, parts, yes in ((Falls(3), "falls", (3,), False), (Tears(1, 2), "tears", (1, 2), False),
                                       (Cover([1, [2]]), "cover", ((1, (2,)),), True)):
            self.same([made.word, made.parts, bool(made), isinstance(made, Denial), isinstance(made, Paper)],
                      [word, parts, yes, not yes, True])
            self.assertIn(type(made).__bases__, ((Denial,), (Paper,)))
        self.same([Falls(size=4).size, Tears(other=[1], one="x").one, Tears("x", [1]).other, Cover(sizes=[[2]]).sizes],
                  [4, "x", (1,), ((2,),)])
        self.assertEqual([Falls([1]) == Falls((1,)), Falls(1) == Falls(2), Tears(1, 2) == Tears(2, 1), Falls(1) == Cover(1),
                          Cover([1]) == Cover((1,)), Cover([1]) == (1,), Paper("cover", (1,)) == Cover([1])],
                         [True, False, False, False, True, False, False])
        for value in NO_OBJECTS:
            self.same([Falls(value).size, Cover(value).parts, Tears(value, 1).one],
                      [Cover(value).sizes, (Falls(value).size,), Falls(value).size])


class Tables(Case):
    def test_any_value(self):
        for value in NO_NUMBERS:
            self.same(is_prices(value), False)
            self.bad(BadPrices, "table", Prices, value)
            self.bad(BadPrices, "numbers", below, value)
            self.bad(BadPrices, "numbers", cover, value, None)
            self.bad(BadPrices, "table", steepness, value)
            self.bad(BadPrices, "table", cost, value, None)
            self.bad(BadPrices, "table", most_for, 2, value)

    def test_lists_and_tuples(self):
        table = [3, 4]
        made = Prices(table)
        table.append(1)
        self.same([made.table, Prices((3, 4)).table, Prices((3, 4)) == made, is_prices((3, 4))], [(3, 4), (3, 4), True, True])
        self.assertEqual(vars(made), {"table": (3, 4)})

    def test_equal(self):
        one = Prices(FEES)
        self.assertIs(one == Prices(tuple(FEES)), True)
        self.assertIs(one != Prices(FEES), False)
        for other in [Prices(FEES[:5]), Prices(BLOCKS), tuple(FEES), FEES, Cover(FEES)] + NO_OBJECTS:
            self.assertIs(one == other, False)
            self.assertIs(other == one, False)

    def test_small_tables_all_of_them(self):
        for many in range(1, 6):
            for table in itertools.product(range(5), repeat=many):
                self.check(table)

    def test_random_tables(self):
        rng = random.Random(4)
        kinds = set()
        for _ in range(1500):
            kinds.add(self.check(random_table(rng, 24)))
        self.assertEqual(kinds, {None, "falls", "tears"})

    def check(self, table):
        wanted = flaw(table)
        self.same(is_prices(table), wanted is None)
        if wanted is None:
            self.same(Prices(table).table, tuple(table))
            return None
        with self.assertRaises(Impossible) as caught:
            Prices(table)
        paper = caught.exception.paper
        self.same([paper.word, paper.parts, type(paper).__name__], [*wanted, wanted[0].capitalize()])
        return wanted[0]

    def test_of_400_numbers(self):
        self.same([is_prices([1] * 400), is_prices([1] * 401), len(Prices([7] * 400).table)], [True, False, 400])
        table = [2 * size for size in range(1, 401)]
        self.same([is_prices(table), below(table) == Prices(table)], [True, True])
        self.check(table[:-1] + [table[-1] + 1])
        self.check(table[:-1] + [1])
        rng = random.Random(5)
        for _ in range(3):
            numbers = [rng.randint(0, GREATEST) for _ in range(400)]
            self.assertIs(is_prices(numbers), False)
            made = below(numbers)
            self.same(flaw(made.table), None)
            self.assertEqual([sum(numbers[each - 1] for each in cover(numbers, size).sizes) for size in (1, 200, 399, 400)],
                             [made.table[size - 1] for size in (1, 200, 399, 400)])

    def test_numbers_of_any_size(self):
        self.same([is_prices([GREATEST] * 3), is_prices([GREATEST, 2 * GREATEST // 2]), is_prices([5, 10 ** 59])],
                  [True, True, False])
        self.same(is_prices([10 ** 59, 2 * 10 ** 59]), True)
        self.same(is_prices([10 ** 59, 2 * 10 ** 59 + 1]), False)

    def test_zeros(self):
        self.same([is_prices([0]), is_prices([0] * 400), is_prices([0, 1]), is_prices([1, 0]), below([5, 0, 3]).table],
                  [True, True, False, False, (0, 0, 0)])


class Below(Case):
    def test_the_least_that_covers_cost(self):
        rng = random.Random(6)
        for _ in range(60):
            numbers = random_table(rng, 7)
            self.same(below(numbers).table, tuple(least_cost(numbers, size) for size in range(1, len(numbers) + 1)))

    def test_the_greatest_prices_below(self):
        for numbers in itertools.product(range(4), repeat=4):
            made = below(numbers)
            self.assertIs(type(made), Prices)
            let = [table for table in itertools.product(range(4), repeat=4) if flaw(table) is None
                   and all(each <= number for each, number in zip(table, numbers))]
            self.assertIn(made.table, let)
            for table in let:
                self.assertTrue(all(each <= most_there for each, most_there in zip(table, made.table)))

    def test_of_prices_they_are_the_same(self):
        rng = random.Random(7)
        for _ in range(200):
            made = below(random_table(rng, 30))
            self.assertEqual(below(made.table), made)
            self.assertIs(is_prices(made.table), True)


class Covers(Case):
    def test_covers_that_cost_least(self):
        rng = random.Random(8)
        for _ in range(150):
            numbers = random_table(rng, 20)
            least = below(numbers).table
            for size in range(1, len(numbers) + 1):
                made = cover(numbers, size)
                self.assertIs(type(made), Cover)
                self.assertIs(type(made.sizes), tuple)
                self.assertTrue(all(type(each) is int and 1 <= each <= len(numbers) for each in made.sizes))
                self.assertLessEqual(1, len(made.sizes))
                self.assertLessEqual(len(made.sizes), size)
                self.assertGreaterEqual(sum(made.sizes), size)
                self.same(sum(numbers[each - 1] for each in made.sizes), least[size - 1])
                self.assertEqual(cover(tuple(numbers), size), made)

    def test_many_zeros_need_no_more_than_the_size(self):
        for numbers in ([0], [0] * 9, [0, 1, 0, 2], [3, 0, 0]):
            for size in range(1, len(numbers) + 1):
                self.assertLessEqual(len(cover(numbers, size).sizes), size)

    def test_wrong_sizes(self):
        for numbers in (FEES, [1], [0] * 400):
            for size in out_of(1, len(numbers)):
                self.bad(BadNumber, "size", cover, numbers, size)
            self.assertIs(type(cover(numbers, len(numbers))), Cover)


class Steepness(Case):
    def test_against_all_pairs(self):
        rng = random.Random(9)
        for _ in range(400):
            table = random_table(rng, 40, 1)
            value, pair = steepest(table)
            self.same(steepness(table), pair)
            for q in (2, 3, 8, 33, 64):
                least = min(number for number in range(7) if 2 ** number >= q)
                bound = 3 + 8 * q * value * (3 + least)
                self.same(most_for(q, table), -(-bound.numerator // bound.denominator))

    def test_small_tables_all_of_them(self):
        for many in range(1, 6):
            for table in itertools.product((1, 2, 3, 7), repeat=many):
                self.same(steepness(table), steepest(table)[1])

    def test_of_prices_it_is_2_at_most(self):
        rng = random.Random(10)
        for _ in range(300):
            table = [each + 1 for each in below(random_table(rng, 40, 1)).table]
            if is_prices(table):
                self.assertLessEqual(steepest(table)[0], 2)
                self.assertLessEqual(most_for(5, table), most(5))

    def test_a_zero(self):
        for table in ([0], [1, 0], [0, 1], [3, 4, 0, 5], [0] * 400):
            self.bad(BadPrices, "table", steepness, table)
            self.bad(BadPrices, "table", most_for, 2, table)

    def test_400_numbers_of_any_size(self):
        rng = random.Random(11)
        table = [rng.randint(1, GREATEST) for _ in range(400)]
        value, pair = steepest(table)
        bound = 3 + 8 * 64 * value * 9
        self.same([steepness(table), most_for(64, table)], [pair, -(-bound.numerator // bound.denominator)])


class Bounds(Case):
    def test_most(self):
        wanted = {2: 131, 3: 243, 4: 323, 5: 483, 8: 771, 9: 1011, 16: 1795, 17: 2179, 32: 4099, 33: 4755, 64: 9219}
        for q, bound in wanted.items():
            self.same(most(q), bound)
        for q in range(2, 65):
            self.same(most(q), 3 + 16 * q * (3 + min(number for number in range(7) if 2 ** number >= q)))
            self.same(most_for(q, [5]), 3 + 8 * q * (3 + min(number for number in range(7) if 2 ** number >= q)))

    def test_wrong_q(self):
        for q in out_of(2, 64):
            self.bad(BadNumber, "q", most, q)
            self.bad(BadNumber, "q", most_for, q, None)
            self.bad(BadNumber, "q", most_for, q, [0])

    def test_what_is_passed_stays(self):
        table = [3, 9, 4, 4]
        for call in (is_prices, below, steepness, lambda told: cover(told, 3), lambda told: most_for(2, told),
                     lambda told: cost(told, RUN)):
            before = copy.deepcopy(table)
            call(table)
            self.same(table, before)


class Costs(Case):
    def test_a_small_history(self):
        # Sizes written: 4 twice, 1, 1, then 1 1 1 4 1 1 1, and 1; deeds 4 1 1 1 4 1 1.
        self.same([cost([1, 0, 0, 100], RUN), cost([0, 9, 9, 1], RUN), cost([HUGE] * 4, RUN)],
                  [(309, 205), (3, 2), (12 * HUGE, 7 * HUGE)])

    def test_what_all_writes_and_all_deeds_cost(self):
        rng = random.Random(12)
        for seed in range(60):
            q, deeds = random_deeds(seed, 60)
            history = History(q, deeds)
            if max(sizes(history)) > 400:
                continue
            table = [rng.randint(0, 9) for _ in range(max(sizes(history)))]
            wanted = (sum(table[size - 1] for row in writes(history) for _, size in row),
                      sum(table[size - 1] for size in sizes(history)))
            self.same([cost(table, history), cost(table + [1], history)], [wanted, wanted])

    def test_files_greater_than_the_table(self):
        for history, greatest in ((RUN, 4), (History(3, [("put", 1), ("put", 7), ("drop", 1)]), 7)):
            self.bad(Misfit, "sizes", cost, [1] * (greatest - 1), history)
            self.assertIs(type(cost([1] * greatest, history)), tuple)
        self.bad(Misfit, "sizes", cost, [1] * 400, History(2, [("put", 401)]))
        self.same(cost([3], History(2, [])), (0, 0))

    def test_wrong_histories(self):
        for value in NO_OBJECTS + [RUN.deeds, History, [RUN]]:
            self.bad(BadDeeds, "history", cost, FEES, value)
        for value in NO_INTEGERS:
            self.bad(BadPrices, "table", cost, [1, 1, 1, value], RUN)

    def test_the_bound_by_any_prices(self):
        rng = random.Random(13)
        for seed in range(40):
            q, deeds = random_deeds(seed + 30, 80)
            history = History(q, deeds)
            if max(sizes(history)) > 400:
                continue
            for _ in range(4):
                numbers = (random_table(rng, 400, 1) + [9] * 400)[:max(sizes(history))]
                spent, bound = cost(below(numbers).table, history)
                self.assertLessEqual(spent, most(q) * bound)
                spent, bound = cost(numbers, history)
                self.assertLessEqual(spent, most_for(q, numbers) * bound)


if __name__ == "__main__":
    unittest.main()
