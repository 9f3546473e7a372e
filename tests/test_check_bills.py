import copy
import random
import unittest

from priceblind import check_bills
from priceblind.bills import Bill, bill
from priceblind.check_bills import shows_bill
from priceblind.enemies import dear
from priceblind.errors import BadDeeds
from priceblind.histories import History, sizes
from priceblind.papers import Denial, Paper
from test_bills import RUN, histories_of_all_kinds, is_right, wanted_rows
from values import HUGE, NO_INTEGERS, NO_OBJECTS, Case

MINE = Bill([(3, 0, [(2, 4, ("room", [1, 2]))]), (4, 2, [(2, 4, ("passed", 4))]), (6, 0, [(0, 3, ("passed", 6))])])


def as_lists(value):
    return [as_lists(each) for each in value] if isinstance(value, tuple) else value


def paths(value, path=()):
    """The ways to all that stands within lists."""
    if path:
        yield path
    if isinstance(value, list):
        for number, each in enumerate(value):
            yield from paths(each, path + (number,))


def put_at(value, path, part):
    for number in path[:-1]:
        value = value[number]
    value[path[-1]] = part


def value_at(value, path):
    for number in path:
        value = value[number]
    return value


class Shown(Case):
    def test_example_of_the_interface(self):
        self.same([shows_bill(RUN, bill(RUN)), shows_bill(RUN, MINE), shows_bill(RUN, Bill(MINE.rows[:2]))],
                  [True, True, False])
        twice = Bill([(3, 0, [(2, 4, ("room", [1, 2]))]), (4, 2, [(2, 4, ("passed", 4))]), (6, 0, [(0, 3, ("room", [2, 3]))])])
        self.same([shows_bill(RUN, twice), shows_bill(RUN, Bill([(3, 0, [(2, 4, ("passed", 1))])] + list(MINE.rows[1:])))],
                  [False, False])

    def test_defined_here(self):
        self.assertEqual(shows_bill.__module__, check_bills.__name__)
        self.same(shows_bill(value=MINE, history=RUN), True)

    def test_wrong_histories(self):
        for value in NO_OBJECTS + [RUN.deeds, History, [RUN], MINE]:
            self.bad(BadDeeds, "history", shows_bill, value, None)
            self.bad(BadDeeds, "history", shows_bill, value, MINE)

    def test_what_is_no_bill(self):
        class Mine(Bill):
            pass

        for value in NO_OBJECTS + [MINE.rows, list(MINE.rows), MINE.parts, Bill, Mine(MINE.rows), Paper("bill", MINE.rows),
                                   Denial("bill", MINE.rows), {"rows": MINE.rows}, [MINE], Bill(MINE), Bill([MINE])]:
            self.same(shows_bill(RUN, value), False)

    def test_lists_for_tuples(self):
        self.same(shows_bill(RUN, Bill(as_lists(MINE.rows))), True)

    def test_any_value_anywhere_within(self):
        for value in NO_INTEGERS + [HUGE, -1, -HUGE, "room", "passed", ("room", [1]), [[]], [[[1]]], ((), ()), {"room": [1]}]:
            self.same(shows_bill(RUN, Bill(value)), False)
            for path in paths(as_lists(MINE.rows)):
                rows = as_lists(MINE.rows)
                if repr(value_at(rows, path)) == repr(value):
                    continue
                put_at(rows, path, value)
                # Of these alone a right bill comes: deed 1 may pay for the last region, too.
                right = self.is_well_formed(rows) and is_right(RUN, rows)
                self.same(shows_bill(RUN, Bill(rows)), right)

    def is_well_formed(self, rows):
        try:
            for number, b, parts in rows:
                assert type(number) is int and type(b) is int
                for r, cells, (word, payers) in parts:
                    assert type(r) is int and type(cells) is int and word in ("room", "passed")
                    assert type(payers) in ((int,) if word == "passed" else (list, tuple))
                    assert word == "passed" or all(type(each) is int for each in payers)
        except (AssertionError, TypeError, ValueError):
            return False
        return True

    def test_true_and_false_stand_for_no_number(self):
        for path, part in (((0, 1), False), ((0, 2, 0, 2, 1, 0), True), ((2, 1), False), ((2, 2, 0, 0), False)):
            rows = as_lists(MINE.rows)
            self.assertEqual(value_at(rows, path), part)
            put_at(rows, path, part)
            self.same(shows_bill(RUN, Bill(rows)), False)
            put_at(rows, path, float(part))
            self.same(shows_bill(RUN, Bill(rows)), False)

    def test_each_rule_by_itself(self):
        table = [
            # Payers of greater numbers, of greater ranks, too few, none, not ascending, twice.
            ((0, 2, 0, 2), ["room", [1, 2, 3]], True), ((0, 2, 0, 2), ["room", [1, 2, 4]], False),
            ((0, 2, 0, 2), ["passed", 0], True), ((0, 2, 0, 2), ["room", [0]], True), ((0, 2, 0, 2), ["passed", 4], False),
            ((0, 2, 0, 2), ["room", [1]], False), ((0, 2, 0, 2), ["room", []], False), ((0, 2, 0, 2), ["passed", 1], False),
            ((0, 2, 0, 2), ["room", [2, 1]], False), ((0, 2, 0, 2), ["room", [1, 1]], False),
            ((0, 2, 0, 2), ["room", [1, 1, 2]], False), ((0, 2, 0, 2), ["room", 0], False), ((0, 2, 0, 2), ["passed", [0]], False),
            ((0, 2, 0, 2), ["passed", -7], False), ((0, 2, 0, 2), ["passed", -1], False), ((0, 2, 0, 2), ["room", [-1, 0]], False),
            ((2, 2, 0, 2), ["passed", 0], False), ((2, 2, 0, 2), ["passed", 4], False), ((2, 2, 0, 2), ["passed", 1], True),
            ((2, 2, 0, 2), ["room", [3]], True), ((2, 2, 0, 2), ["room", [5, 6]], True), ((2, 2, 0, 2), ["room", [6, 7]], False),
            ((2, 2, 0, 2), ["room", [1]], False), ((2, 2, 0, 2), ["Room", [3]], False), ((2, 2, 0, 2), ["room", [3], 1], False),
            ((2, 2, 0, 2), ["room"], False), ((2, 2, 0), [0, 3, ["room", [3]], 1], False), ((2, 2, 0), [0, 3], False),
            ((2, 2, 0), [0, 4, ["room", [3]]], False), ((2, 2, 0), [1, 3, ["room", [3]]], False), ((2, 2), [], False),
            ((2,), [6, 0], False), ((2,), [5, 0, [[0, 3, ["room", [3]]]]], False), ((2,), [6, 1, [[0, 3, ["room", [3]]]]], False)]
        for path, part, right in table:
            rows = as_lists(MINE.rows)
            put_at(rows, path, part)
            self.same([path, part, shows_bill(RUN, Bill(rows))], [path, part, right])
        rows = as_lists(MINE.rows)
        for changed in (rows[::-1], rows + rows[2:], rows[1:], [[0, 2, []]] + rows, rows + [[7, 0, []]], []):
            self.same(shows_bill(RUN, Bill(changed)), False)

    def test_no_more_than_so_often(self):
        # One deed may pay for L + 2 regions that it passed over, and no more, in the whole bill.
        for q, least in ((2, 1), (3, 2), (4, 2), (5, 3)):
            history = dear(q, 4, 1, 4)
            rows = as_lists(bill(history).rows)
            of_deeds = sizes(history)
            parts = [(number, part) for number, _, parts in rows for part in parts if part[0] == 2]
            self.assertGreater(len(parts), least + 2)
            # A deed of size 4 pays for payloads below 2 q 4 cells.
            self.assertEqual([of_deeds[1], parts[0][1][1] < 8 * q], [4, True])
            for many in range(len(parts) + 1):
                trial = copy.deepcopy(rows)
                targets = [part for number, _, parts in trial for part in parts if part[0] == 2 and part[1] < 8 * q and number >= 1]
                for part in targets[:many]:
                    part[2] = ["passed", 1]
                self.same(shows_bill(history, Bill(trial)), min(many, len(targets)) <= least + 2)
                self.same(is_right(history, trial), min(many, len(targets)) <= least + 2)

    def test_changed_bills_are_right_just_if_the_rules_say_so(self):
        rng = random.Random(3)
        counts = {True: 0, False: 0}
        for history in histories_of_all_kinds(40, 40):
            told, wanted, of_deeds = bill(history).rows, wanted_rows(history), sizes(history)
            for _ in range(8 if told else 0):
                rows = as_lists(told)
                for _ in range(rng.randint(1, 3)):
                    self.change(rng, of_deeds, rows)
                right = is_right(history, rows, wanted)
                counts[right] += 1
                self.same(shows_bill(history, Bill(rows)), right)
        self.assertGreater(min(counts.values()), 60)

    def change(self, rng, of_deeds, rows):
        row = rng.choice(rows)
        if not row[2] or rng.random() < 0.05:
            row[rng.randrange(2)] += rng.choice([-1, 1])
            return
        part = rng.choice(row[2])
        what = rng.randrange(10)
        if what == 0:
            part[rng.randrange(2)] += rng.choice([-1, 1])
        elif what == 1:
            row[2].remove(part)
        elif what < 6:
            part[2] = ["passed", rng.randrange(max(1, row[0] + rng.randrange(2)))]
        else:
            numbers = [number for number in range(row[0] + 1) if rng.random() < 0.3]
            part[2] = ["room", [each for each in numbers if of_deeds[each] < 2 ** (part[0] + 1)]]

    def test_long_bills(self):
        self.same(shows_bill(RUN, Bill([(3, 0, [(2, 4, ("room", list(range(19000))))])] + list(MINE.rows[1:]))), False)
        deep = 1
        for _ in range(25):
            deep = [deep]
        self.same([shows_bill(RUN, Bill(deep)), shows_bill(RUN, Bill([deep])), shows_bill(RUN, Bill(list(MINE.rows) + [deep]))],
                  [False, False, False])


if __name__ == "__main__":
    unittest.main()
