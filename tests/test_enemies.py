import unittest

from priceblind import enemies
from priceblind.check_bills import shows_bill
from priceblind.bills import bill
from priceblind.enemies import dear, fullest, scattered
from priceblind.errors import BadNumber, TooMany
from priceblind.fits import first_fit
from priceblind.histories import History, layouts, sizes, writes
from priceblind.layouts import length, live
from priceblind.prices import cost, most, most_for
from test_fits import fitted
from test_prices import rank
from values import Case, out_of


def scattered_deeds(k):
    """The deeds of scattered, straight from [13]."""
    deeds = [("put", 1)] * 2 ** (k + 1)
    for turn in range(1, k + 1):
        places, sizes_there, there = fitted(deeds)[0], [], set()
        for word, number in deeds:
            if word == "put":
                there.add(len(sizes_there))
                sizes_there.append(number)
            else:
                there.remove(number)
        deeds += [("drop", each) for each in sorted(there) if (places[each] + sizes_there[each]) % 2 ** turn]
        deeds += [("put", 2 ** turn)] * 2 ** (k - turn)
    return tuple(deeds)


class Told(Case):
    def test_example_of_the_interface(self):
        self.same([fullest(3).deeds, dear(2, 2, 1, 1).deeds],
                  [(("put", 1), ("put", 1), ("put", 1), ("drop", 0)),
                   (("put", 2), ("put", 2), ("put", 1), ("drop", 2), ("put", 1), ("drop", 3), ("put", 1), ("drop", 4))])
        self.same([scattered(2, 1).deeds, len(scattered(9, 3).deeds)],
                  [(("put", 1), ("put", 1), ("put", 1), ("put", 1), ("drop", 0), ("drop", 2), ("put", 2)), 41])
        self.bad(BadNumber, "u", dear, 2, 6, 4, 1)

    def test_all_are_defined_here(self):
        self.assertEqual([each.__module__ for each in (fullest, dear, scattered)], [enemies.__name__] * 3)
        self.assertEqual([fullest(q=3), dear(turns=1, u=1, t=2, q=2), scattered(k=2, q=5)],
                         [fullest(3), dear(2, 2, 1, 1), scattered(5, 2)])

    def test_histories_of_q(self):
        for q in range(2, 65):
            for made in (fullest(q), dear(q, 5, 2, 3), scattered(q, 2)):
                self.assertIs(type(made), History)
                self.same(made.q, q)
            self.same(fullest(q).deeds, (("put", 1),) * q + (("drop", 0),))

    def test_dear_deed_by_deed(self):
        for q, t, u, turns in ((2, 2, 1, 1), (7, 100, 63, 5), (64, 4096, 2047, 30), (3, 9, 7, 1000), (5, 4, 3, 990), (2, 4096, 5, 1)):
            deeds = [("put", t)] * q
            for number in range(turns * (t // u) + 1):
                deeds += [("put", u), ("drop", q + number)]
            self.same(dear(q, t, u, turns).deeds, tuple(deeds)) if len(deeds) <= 2000 else self.fails(
                TooMany, {"what": "deeds", "most": 2000}, dear, q, t, u, turns)

    def test_scattered_deed_by_deed(self):
        for k in range(1, 6):
            for q in (2, 33, 64):
                self.same(scattered(q, k).deeds, scattered_deeds(k))

    def test_wrong_numbers(self):
        for q in out_of(2, 64):
            for call, parts in ((fullest, ()), (dear, (None, None, None)), (scattered, (None,))):
                self.bad(BadNumber, "q", call, q, *parts)
        for t in out_of(2, 4096):
            self.bad(BadNumber, "t", dear, 2, t, None, None)
        for t, u in ((2, 1), (3, 1), (4, 3), (7, 3), (8, 7), (4095, 2047), (4096, 4095)):
            for wrong in out_of(1, u):
                self.bad(BadNumber, "u", dear, 2, t, wrong, None)
            self.same(dear(2, t, u, 1).deeds[:3], (("put", t), ("put", t), ("put", u)))
        for turns in out_of(1, 1000):
            self.bad(BadNumber, "turns", dear, 2, 2, 1, turns)
        for k in out_of(1, 8):
            self.bad(BadNumber, "k", scattered, 2, k)

    def test_too_many_deeds(self):
        wrong = {"what": "deeds", "most": 2000}
        # q puts, and two deeds for each of turns t // u and one time more.
        self.same([len(dear(2, 2, 1, 499).deeds), len(dear(64, 2, 1, 483).deeds), len(dear(3, 4, 3, 997).deeds)],
                  [2000, 1998, 1999])
        self.same(len(dear(2, 4, 3, 998).deeds), 2000)
        self.fails(TooMany, wrong, dear, 3, 4, 3, 998)
        self.fails(TooMany, wrong, dear, 2, 4, 3, 999)
        self.fails(TooMany, wrong, dear, 2, 2, 1, 500)
        self.fails(TooMany, wrong, dear, 64, 2, 1, 484)
        self.fails(TooMany, wrong, dear, 2, 4096, 1, 1000)
        self.bad(BadNumber, "turns", dear, 2, 4096, 1, 1001)
        self.same(len(scattered(2, 8).deeds), 1524)


class Facts(Case):
    def test_fullest(self):
        for q in range(2, 65):
            last = layouts(fullest(q))[-1]
            self.same([length(last), live(last)], [q + 1, q - 1])

    def test_what_dear_writes(self):
        for q, t, u, turns in ((2, 2, 1, 3), (2, 5, 3, 4), (3, 9, 1, 2), (5, 8, 7, 6), (16, 33, 31, 9), (64, 3, 1, 4), (7, 6, 2, 5),
                               (64, 100, 63, 8), (2, 4096, 2048, 10), (40, 12, 1, 1)):
            history = dear(q, t, u, turns)
            many, moved = t // u, u + u // q
            times = 2 if moved < t else 1
            wrote = [size for row in writes(history) for _, size in row]
            self.same([wrote.count(t), wrote.count(u), len(wrote)],
                      [q * (2 + times * (2 * turns - 1)), many * turns + 1 + turns,
                       q * (2 + times * (2 * turns - 1)) + many * turns + 1 + turns])
            of_deeds = list(sizes(history))
            self.same([of_deeds.count(t), of_deeds.count(u)], [q, 2 * (many * turns + 1)])

    def test_dear_by_numbers_of_any_steepness(self):
        for q, t, u, turns in ((2, 2, 1, 90), (3, 9, 1, 10), (8, 4, 3, 90), (64, 2, 1, 30)):
            history = dear(q, t, u, turns)
            for steep in (1, 5, 10 ** 9):
                table = [1] * t
                table[t - 1] = steep
                spent, bound = cost(table, history)
                self.assertLessEqual(spent, most_for(q, table) * bound)
            spent, bound = cost([1] * t, history)
            self.assertLessEqual(spent, most(q) * bound)

    def test_scattered(self):
        for k in range(1, 9):
            history = scattered(2, k)
            places, longest = first_fit(history.deeds)
            self.same([longest, len(places)], [(k + 2) * 2 ** k, 2 ** (k + 1) + 2 ** k - 1])
            cells, greatest = 0, 0
            for (word, _), size in zip(history.deeds, sizes(history)):
                cells += size if word == "put" else -size
                greatest = max(greatest, cells)
            self.same(greatest, 2 ** (k + 1))

    def test_bounds_and_bills_for_enemies(self):
        for q in (2, 3, 5, 64):
            for history in (fullest(q), dear(q, 6, 2, 4), dear(q, 4096, 100, 1), scattered(q, 3), scattered(q, 4)):
                self.same(shows_bill(history, bill(history)), True)
                for layout in layouts(history):
                    self.assertLessEqual((q - 1) * length(layout), (q + 1) * live(layout))

    def test_ranks(self):
        for t in range(2, 65):
            for u in range(1, 65):
                if rank(u) < rank(t):
                    self.same(dear(2, t, u, 1).deeds[1:3], (("put", t), ("put", u)))
                else:
                    self.bad(BadNumber, "u", dear, 2, t, u, 1)


if __name__ == "__main__":
    unittest.main()
