import copy
import random
import unittest

from models import random_deeds
from priceblind import fits
from priceblind.enemies import scattered
from priceblind.errors import BadDeeds, NoFile, TooMany
from priceblind.fits import first_fit
from values import HUGE, NO_OBJECTS, Case


def fitted(deeds):
    """First fit cell by cell."""
    taken, lies, places, longest = set(), {}, [], 0
    for word, number in deeds:
        if word == "drop":
            taken -= lies.pop(number)
            continue
        at = 0
        while taken & set(range(at, at + number)):
            at += 1
        lies[len(places)] = set(range(at, at + number))
        taken |= lies[len(places)]
        longest = max(longest, at + number)
        places.append(at)
    return tuple(places), longest


class Told(Case):
    def test_example_of_the_interface(self):
        self.same([first_fit(scattered(2, 1).deeds),
                   first_fit([("put", 3), ("put", 1), ("drop", 0), ("put", 2), ("put", 2)]), first_fit(())],
                  [((0, 1, 2, 3, 4), 6), ((0, 3, 0, 4), 6), ((), 0)])

    def test_defined_here(self):
        self.assertEqual(first_fit.__module__, fits.__name__)
        self.same(first_fit(deeds=[["put", 2]]), ((0,), 2))

    def test_against_cells(self):
        for seed in range(150):
            _, deeds = random_deeds(seed, 80, 12)
            if max(number for word, number in deeds if word == "put") <= 40:
                self.same(first_fit(deeds), fitted(deeds))
                self.same(first_fit([list(deed) for deed in deeds]), fitted(deeds))

    def test_small_runs(self):
        rng = random.Random(1)
        for _ in range(400):
            deeds, files, puts = [], [], 0
            for _ in range(rng.randint(1, 14)):
                if files and rng.random() < 0.45:
                    deeds.append(("drop", files.pop(rng.randrange(len(files)))))
                else:
                    deeds.append(("put", rng.randint(1, 4)))
                    files.append(puts)
                    puts += 1
            self.same(first_fit(tuple(deeds)), fitted(deeds))

    def test_holes_of_just_the_size_and_of_one_less(self):
        deeds = [("put", 3), ("put", 1), ("put", 2), ("put", 1), ("drop", 0), ("drop", 2)]
        for size, place in ((1, 0), (2, 0), (3, 0), (4, 7), (5, 7)):
            self.same(first_fit(deeds + [("put", size)]), ((0, 3, 4, 6, place), max(7, place + size)))
        self.same(first_fit(deeds + [("drop", 1), ("put", 6)]), ((0, 3, 4, 6, 0), 7))
        self.same(first_fit(deeds + [("drop", 3), ("put", 7)]), ((0, 3, 4, 6, 4), 11))

    def test_the_greatest_length_of_all(self):
        self.same(first_fit([("put", 4096), ("put", 4096), ("drop", 1), ("drop", 0), ("put", 1)]), ((0, 4096, 0), 8192))
        self.same(first_fit([("put", 5), ("drop", 0)]), ((0,), 5))

    def test_errors_of_a_history(self):
        for value in [each for each in NO_OBJECTS if each not in ([], ())]:
            self.bad(BadDeeds, "deeds", first_fit, value)
            self.bad(BadDeeds, "deeds", first_fit, [("put", 1), value])
        for deed in (("put", 0), ("put", 4097), ("put", True), ("drop", -1), ("drop", False), ("view", 0), ("put", HUGE), "put"):
            self.bad(BadDeeds, "deeds", first_fit, [deed])
            self.bad(BadDeeds, "deeds", first_fit, [("drop", 0), deed])
        self.fails(NoFile, {"value": 0}, first_fit, [("drop", 0)])
        self.fails(NoFile, {"value": 1}, first_fit, [("put", 1), ("drop", 1)])
        self.fails(NoFile, {"value": 0}, first_fit, [("put", 1), ("drop", 0), ("drop", 0)])
        self.fails(TooMany, {"what": "deeds", "most": 2000}, first_fit, [("put", 1)] * 2001)

    def test_2000_deeds(self):
        self.same(first_fit([("put", 4096)] * 2000), (tuple(range(0, 8192000, 4096)), 8192000))
        deeds = [("put", 2)] * 1000 + [("drop", 2 * number) for number in range(500)] + [("put", 3)] * 500
        self.same(first_fit(deeds)[1], 3500)
        deeds = [("put", 1)] * 1000 + [("drop", number) for number in range(1000)]
        self.same(first_fit(deeds), (tuple(range(1000)), 1000))
        before = copy.deepcopy(deeds)
        first_fit(deeds)
        self.same(deeds, before)


if __name__ == "__main__":
    unittest.main()
