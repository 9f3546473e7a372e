import copy
import random
import unittest

from models import Strip, random_deeds
from priceblind import histories
from priceblind.check_tidyings import shows_copies
from priceblind.errors import BadDeeds, BadNumber, NoFile, TooMany
from priceblind.histories import History, layouts, sizes, tidyings, writes
from priceblind.layouts import Layout, empty, length, live
from priceblind.tidyings import Tidying
from values import HUGE, NO_OBJECTS, Case, out_of

RUN = History(2, [("put", 4), ("put", 1), ("put", 1), ("put", 1), ("drop", 0), ("drop", 1), ("drop", 2)])
WRITES = (((0, 4), (0, 4)), ((1, 1),), ((2, 1),),
          ((3, 1), (1, 1), (2, 1), (0, 4), (1, 1), (2, 1), (3, 1)), (), (), ((3, 1),))
FUNCTIONS = (layouts, tidyings, sizes, writes)


def prices(seed):
    """Prices for the sizes up to 300: each cell, each file, each begun block cost something, or what they sum to."""
    rng = random.Random(seed)
    cell, fee, block, many = rng.randrange(4), rng.randrange(50), rng.randrange(30), rng.randint(1, 40)
    return [0] + [cell * size + fee + block * -(-size // many) for size in range(1, 301)]


class Example(Case):
    def test_example_of_the_interface(self):
        self.same([sizes(RUN), [(number, told.rank, len(told.copies)) for number, told in tidyings(RUN)]],
                  [(4, 1, 1, 1, 4, 1, 1), [(0, 2, 1), (3, 0, 6), (4, 2, 0), (6, 0, 1)]])
        self.same(writes(RUN), WRITES)
        self.same([each.regions for each in layouts(RUN)][-2:],
                  [((0, (("hole", 1, 1), ("file", 2, 1), ("file", 3, 1)), (("shade", 1, 1),)),),
                   ((0, (("file", 3, 1),), ()),)])
        self.bad(BadDeeds, "deeds", History, 2, [("put", 1), ("drop", -1)])

    def test_all_are_defined_here(self):
        for each in (History,) + FUNCTIONS:
            self.assertEqual(each.__module__, histories.__name__)
        for name in ("__init__", "__eq__"):
            self.assertIn(name, vars(History))

    def test_by_name(self):
        self.assertEqual(History(q=2, deeds=RUN.deeds), RUN)
        for function in FUNCTIONS:
            self.assertEqual(function(history=RUN), function(RUN))


class Made(Case):
    def test_q(self):
        for q in out_of(2, 64):
            self.bad(BadNumber, "q", History, q, None)
        self.same([History(2, []).q, History(64, ()).q], [2, 64])

    def test_what_is_no_list_of_deeds(self):
        wrong = [value for value in NO_OBJECTS if value not in ((), [])] + [
            ("put", 1), ["put", 1], {("put", 1): 1}, {("put", 1)}, "put 1", [("put", 1), None]]
        for deed in NO_OBJECTS + [("put",), ("put", 1, 1), ("Put", 1), ("put", 0), ("put", 4097), ("put", -1), ("put", HUGE),
                                  ("put", True), ("put", None), ("put", "1"), ("put", (1,)), ("put", 1.0), ("drop", -1),
                                  ("drop", True), ("drop", False), ("drop", None), ("drop", "0"), ("drop", -HUGE),
                                  ("copied", 1), (True, 1), (("put",), 1), (["put"], 1), {"put": 1}, ("view", 0), "pu"]:
            wrong.append([deed])
            wrong.append([("put", 1), deed])
            # Whatever stands there comes ahead of files that are missing.
            wrong.append([("drop", 0), deed])
        for value in wrong:
            self.bad(BadDeeds, "deeds", History, 2, value)

    def test_drops_of_what_is_no_file_then(self):
        table = [
            ([("drop", 0)], 0), ([("put", 1), ("drop", 1)], 1), ([("drop", 0), ("put", 1)], 0),
            ([("put", 1), ("drop", 0), ("drop", 0)], 0), ([("put", 1), ("drop", HUGE)], HUGE),
            ([("put", 1), ("put", 1), ("drop", 1), ("drop", 2), ("drop", 3)], 2),
            ([("put", 1), ("drop", 0), ("put", 2), ("drop", 0)], 0)]
        for deeds, serial in table:
            self.fails(NoFile, {"value": serial}, History, 2, deeds)

    def test_too_many(self):
        deeds = [("put", 1), ("drop", 0)] + [("put", 2)] * 1998
        self.same(len(History(3, deeds).deeds), 2000)
        self.fails(TooMany, {"what": "deeds", "most": 2000}, History, 3, deeds + [("put", 1)])
        self.fails(TooMany, {"what": "deeds", "most": 2000}, History, 3, [("put", 1)] * 6000)
        # A missing file comes ahead of it.
        self.fails(NoFile, {"value": 0}, History, 3, deeds + [("put", 1)] * 100 + [("drop", 0)])
        self.bad(BadDeeds, "deeds", History, 3, deeds * 2 + [("put", 0)])

    def test_what_is_passed_is_kept_whatever_becomes_of_it(self):
        deeds = [["put", 4], ["put", 1], ("drop", 0)]
        before = copy.deepcopy(deeds)
        history = History(5, deeds)
        self.same(deeds, before)
        deeds[0][1] = 9
        deeds.pop()
        wanted = (("put", 4), ("put", 1), ("drop", 0))
        self.same([history.q, history.deeds, sizes(history)], [5, wanted, (4, 1, 4)])
        self.same(vars(history), {"q": 5, "deeds": wanted})

    def test_equal(self):
        self.assertIs(RUN == History(2, [list(deed) for deed in RUN.deeds]), True)
        self.assertIs(RUN != History(2, RUN.deeds), False)
        for other in (History(3, RUN.deeds), History(2, RUN.deeds[:-1]), History(2, ()), RUN.deeds, None, True, (2, RUN.deeds)):
            self.assertIs(RUN == other, False)
            self.assertIs(other == RUN, False)

    def test_without_deeds(self):
        self.same([function(History(2, [])) for function in FUNCTIONS], [(), (), (), ()])

    def test_wrong_histories(self):
        for function in FUNCTIONS:
            for value in NO_OBJECTS + [History, RUN.deeds, ("put", 1), [RUN]]:
                self.bad(BadDeeds, "history", function, value)


class Told(Case):
    def test_as_the_model_tells(self):
        for seed in range(60):
            q, deeds = random_deeds(seed, 50, 14)
            if max(number for word, number in deeds if word == "put") > 300:
                continue
            history, strip = History(q, deeds), Strip(q)
            made, told, wrote, of_files = [], [], [], {}
            for number, deed in enumerate(deeds):
                serial = strip.puts
                tidied = strip.do(deed)
                if deed[0] == "put":
                    of_files[serial] = deed[1]
                made.append((strip.puts, strip.parts()))
                pairs = [(serial, deed[1])] if deed[0] == "put" else []
                if tidied is not None:
                    told.append((number, tidied))
                    pairs += [(each, of_files[each]) for each, _, _ in tidied[2]]
                wrote.append(tuple(pairs))
            self.same([(each.puts, each.regions) for each in layouts(history)], made)
            self.same([(number, (each.rank, each.far, each.copies)) for number, each in tidyings(history)], told)
            self.same(sizes(history), tuple(number if word == "put" else of_files[number] for word, number in deeds))
            self.same(writes(history), tuple(wrote))

    def test_kinds_of_what_is_told(self):
        self.assertEqual([type(each) for each in layouts(RUN)], [Layout] * 7)
        self.assertEqual([type(pair) for pair in tidyings(RUN)], [tuple] * 4)
        self.assertEqual([type(told) for _, told in tidyings(RUN)], [Tidying] * 4)
        self.same([type(function(RUN)) for function in FUNCTIONS], [tuple] * 4)

    def test_the_layouts_lead_from_one_to_the_next(self):
        for seed in range(60):
            q, deeds = random_deeds(seed + 500, 60, 30)
            history = History(q, deeds)
            ahead = (empty(q),) + layouts(history)
            for number, told in tidyings(history):
                self.assertEqual(told.layout, ahead[number + 1])
                self.same(shows_copies(ahead[number], deeds[number], told.copies), True)
            for layout in ahead:
                self.assertEqual(Layout(q, layout.puts, layout.regions), layout)
                self.assertLessEqual((q - 1) * length(layout), (q + 1) * live(layout))

    def test_the_bounds_hold_by_any_prices(self):
        for seed in range(40):
            q, deeds = random_deeds(seed, 150)
            history = History(q, deeds)
            if max(sizes(history)) > 300:
                continue
            least = min(number for number in range(7) if 2 ** number >= q)
            for table in [prices(kind) for kind in range(6)]:
                all_writes = sum(table[size] for row in writes(history) for _, size in row)
                self.assertLessEqual(all_writes, (3 + 16 * q * (3 + least)) * sum(table[size] for size in sizes(history)))

    def test_both_sides_of_the_first_bound(self):
        for q in range(2, 65):
            last = layouts(History(q, [("put", 1)] * q + [("drop", 0)]))[-1]
            self.same([length(last), live(last)], [q + 1, q - 1])

    def test_a_deed_that_needs_none_has_no_tidying(self):
        history = History(2, [("put", 9), ("put", 1), ("drop", 1), ("put", 3), ("put", 1)])
        self.same([[number for number, _ in tidyings(history)], writes(history)],
                  [[0, 4], (((0, 9), (0, 9)), ((1, 1),), (), ((2, 3),), ((3, 1), (2, 3), (0, 9), (0, 9), (3, 1), (2, 3)))])

    def test_two_hundred_deeds(self):
        # 150 files of one size, and then drops and puts that set them out anew again and again.
        deeds = [("put", 4096)] * 150
        for number in range(25):
            deeds += [("put", 1 + number), ("drop", number)]
        history = History(2, deeds)
        self.assertEqual([len(layouts(history)), len(writes(history)), len(sizes(history))], [200, 200, 200])
        self.assertGreater(len(tidyings(history)), 10)

    def test_again_the_same(self):
        self.assertEqual([function(RUN) for function in FUNCTIONS], [function(RUN) for function in FUNCTIONS])


if __name__ == "__main__":
    unittest.main()
