import random
import unittest

from models import random_deeds
from priceblind import bills
from priceblind.bills import Bill, bill
from priceblind.check_bills import shows_bill
from priceblind.enemies import dear, fullest, scattered
from priceblind.errors import BadDeeds
from priceblind.histories import History, layouts, sizes, tidyings
from priceblind.layouts import empty
from priceblind.papers import Denial, Paper
from priceblind.prices import below, cost
from priceblind.tidyings import falls
from test_prices import random_table, rank
from values import NO_OBJECTS, Case

RUN = History(2, [("put", 4), ("put", 1), ("put", 1), ("put", 1), ("drop", 0), ("drop", 1), ("drop", 2)])


def wanted_rows(history):
    """The rows of a right bill without payers: [(number, b, [(rank, V)])], straight from the words of [12]."""
    ahead = [empty(history.q)] + list(layouts(history))
    rows = []
    for number, told in tidyings(history):
        parts = [(r, sum(size for _, _, size in payload)) for r, payload, _ in ahead[number].regions if r >= told.rank]
        if parts:
            rows.append((number, told.rank, parts))
    return rows


def is_right(history, told, wanted=None):
    """Whether rows with integers where integers belong are right, straight from the words of [12]."""
    wanted = wanted_rows(history) if wanted is None else wanted
    if [(number, b, [tuple(part[:2]) for part in parts]) for number, b, parts in told] != wanted:
        return False
    of_deeds, in_rooms, passed = sizes(history), [], []
    for number, _, parts in told:
        for r, cells, (word, payers) in parts:
            each = list(payers) if word == "room" else [payers]
            (in_rooms if word == "room" else passed).extend(each)
            if not each or each != sorted(each) or any(not 0 <= one <= number for one in each):
                return False
            if any(rank(of_deeds[one]) > r for one in each):
                return False
            if cells >= 2 * history.q * sum(of_deeds[one] for one in each):
                return False
    least = min(number for number in range(7) if 2 ** number >= history.q)
    return len(set(in_rooms)) == len(in_rooms) and all(passed.count(one) <= least + 2 for one in passed)


def histories_of_all_kinds(many, first=0):
    """Random runs and enemies, of at most 200 deeds."""
    for seed in range(first, first + many):
        q, deeds = random_deeds(seed, 120)
        yield History(q, deeds)
    for q in (2, 3, 7, 64):
        yield fullest(q)
        yield scattered(q, 4)
        for t, u, turns in ((2, 1, 3), (40, 9, 4), (9, 1, 2), (4096, 2048, 9), (4096, 100, 1)):
            yield dear(q, t, u, turns)


class Told(Case):
    def test_example_of_the_interface(self):
        self.same([row[:2] + tuple([part[:2] for part in row[2]]) for row in bill(RUN).rows],
                  [(3, 0, (2, 4)), (4, 2, (2, 4)), (6, 0, (0, 3))])

    def test_all_are_defined_here(self):
        self.assertEqual([Bill.__module__, bill.__module__], [bills.__name__] * 2)
        self.assertEqual(bill(history=RUN), bill(RUN))

    def test_the_paper(self):
        made = Bill([[1, [2]]])
        self.same([made.word, made.parts, made.rows, bool(made), isinstance(made, Denial), type(made).__bases__ == (Paper,)],
                  ["bill", (((1, (2,)),),), ((1, (2,)),), True, False, True])
        self.assertEqual([Bill(rows=((1, (2,)),)) == made, Bill([[1, [3]]]) == made, Paper("bill", [[1, [2]]]) == made],
                         [True, False, False])
        for value in NO_OBJECTS:
            self.same(Bill(value).parts, (Bill(value).rows,))

    def test_right_bills(self):
        many = 0
        for history in histories_of_all_kinds(120):
            made = bill(history)
            self.assertIs(type(made), Bill)
            self.assertIs(is_right(history, made.rows), True)
            self.assertIs(shows_bill(history, made), True)
            self.assertEqual(bill(History(history.q, [list(deed) for deed in history.deeds])), made)
            many += len(made.rows)
        self.assertGreater(many, 2000)

    def test_payers_of_both_words(self):
        words = {part[2][0] for history in histories_of_all_kinds(20) for _, _, parts in bill(history).rows for part in parts}
        self.assertEqual(words, {"room", "passed"})

    def test_b_falls_more_than_once(self):
        most_often, changed = 0, 0
        for history in histories_of_all_kinds(120, 300):
            of_deeds, ahead = sizes(history), [empty(history.q)] + list(layouts(history))
            for number, b, parts in bill(history).rows:
                things = falls(ahead[number], of_deeds[number])
                self.same(b, min([rank(of_deeds[number])] + [rank(size) for _, _, size in things]))
                most_often = max(most_often, len(things))
                # Regions of ranks below that of the deed are paid by others than this deed.
                below_it = [part[2] for part in parts if part[0] < rank(of_deeds[number])]
                self.assertNotIn(("passed", number), below_it)
                changed += bool(below_it)
        self.assertGreater(changed, 50)
        self.assertGreater(most_often, 1)

    def test_without_rows(self):
        for history in (History(2, []), History(2, [("put", 4)]), History(5, [("put", 3), ("drop", 0), ("put", 2)][:1])):
            self.same(bill(history).rows, ())
        self.same(len(bill(History(5, [("put", 3), ("drop", 0)])).rows), 1)

    def test_wrong_histories(self):
        for value in NO_OBJECTS + [RUN.deeds, History, [RUN], bill(RUN)]:
            self.bad(BadDeeds, "history", bill, value)

    def test_a_right_bill_bounds_every_price_list(self):
        rng = random.Random(2)
        for history in histories_of_all_kinds(40, 600):
            if not history.deeds or max(sizes(history)) > 400:
                continue
            least = min(number for number in range(7) if 2 ** number >= history.q)
            ahead = [empty(history.q)] + list(layouts(history))
            copied = [size for number, b, parts in bill(history).rows for r, payload, _ in ahead[number].regions if r >= b
                      for word, _, size in payload if word == "file"]
            for _ in range(3):
                table = below((random_table(rng, 400) + [rng.randint(0, 99)] * 400)[:max(sizes(history))]).table
                self.assertLessEqual(sum(table[size - 1] for size in copied),
                                     4 * history.q * (least + 3) * cost(table, history)[1])

    def test_two_hundred_deeds(self):
        deeds = [("put", 1 + number % 60) for number in range(100)] + [("drop", 99 - number) for number in range(100)]
        for q in (2, 64):
            self.assertIs(is_right(History(q, deeds), bill(History(q, deeds)).rows), True)


if __name__ == "__main__":
    unittest.main()
