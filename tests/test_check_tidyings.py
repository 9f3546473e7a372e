import random
import unittest

from models import Strip, random_deeds
from priceblind import check_tidyings
from priceblind.check_tidyings import shows_copies
from priceblind.errors import BadDeeds, BadLayout, Misfit, NoFile
from priceblind.layouts import Layout, empty, places
from priceblind.steps import step
from priceblind.tidyings import Tidying, tidying
from values import HUGE, NO_INTEGERS, NO_OBJECTS, Case

FULL = Layout(2, 3, [(2, [("file", 0, 4)], [("file", 1, 1), ("file", 2, 1)])])
NEAR = Layout(2, 4, [(0, [("file", 1, 1)], []), (2, [("file", 0, 4)], [("gone", 2, 1), ("gone", 3, 1)])])
TOLD = tidying(FULL, ("put", 1))
PUT, DROP = ("put", 1), ("drop", 1)


def leads(layout, deed, told, copies):
    """Whether the copies lead to the layout behind, cell by cell."""
    lies = {serial: set(range(place, place + size)) for serial, place, size in places(layout)}
    if deed[0] == "put":
        lies[layout.puts] = set(range(told.far, told.far + deed[1]))
    else:
        del lies[deed[1]]
    for serial, start, to in copies:
        if serial not in lies or min(lies[serial]) != start or to < 0:
            return False
        cells = set(range(to, to + len(lies[serial])))
        if any(cells & taken for taken in lies.values()):
            return False
        lies[serial] = cells
    wanted = {serial: set(range(place, place + size)) for serial, place, size in places(told.layout)}
    return lies == wanted


def tidied(many):
    """Tidyings in random runs: (layout, deed, the Tidying)."""
    for seed in range(many):
        q, deeds = random_deeds(seed, 40, 10)
        layout = empty(q)
        for deed in deeds:
            behind, told = step(layout, deed)
            if told is not None:
                yield layout, deed, told
            layout = behind


class Copies(Case):
    def test_example_of_the_interface(self):
        self.same([shows_copies(FULL, PUT, TOLD.copies), shows_copies(FULL, PUT, TOLD.copies[1:]),
                   shows_copies(NEAR, DROP, [(0, 1, 0)])], [True, False, False])
        self.same(shows_copies(NEAR, DROP, [(0, 1, 50), (0, 50, 5), (0, 5, 0)]), True)

    def test_defined_here(self):
        self.assertEqual(shows_copies.__module__, check_tidyings.__name__)
        self.same(shows_copies(layout=FULL, deed=PUT, value=TOLD.copies), True)

    def test_the_copies_of_a_tidying_are_right(self):
        many = 0
        for layout, deed, told in tidied(100):
            self.same(shows_copies(layout, deed, told.copies), True)
            self.same(shows_copies(layout, list(deed), [list(copy) for copy in told.copies]), True)
            many += 1
        self.assertGreater(many, 800)

    def test_changed_rows_are_right_just_if_they_lead_there(self):
        rng = random.Random(7)
        counts = {True: 0, False: 0}
        for layout, deed, told in tidied(60):
            if max([size for _, _, size in places(told.layout)], default=0) > 300:
                continue
            for _ in range(4):
                copies = [list(copy) for copy in told.copies]
                self.change(rng, copies, told)
                wanted = leads(layout, deed, told, copies)
                counts[wanted] += 1
                self.same(shows_copies(layout, deed, copies), wanted)
        self.assertGreater(min(counts.values()), 50)

    def change(self, rng, copies, told):
        what = rng.randrange(6)
        if what == 0 and copies:
            copies.pop(rng.randrange(len(copies)))
        elif what == 1 and copies:
            rng.choice(copies)[rng.randrange(3)] += rng.choice([-1, 1])
        elif what == 2:
            rng.shuffle(copies)
        elif what == 3 and len(copies) > 1:
            # Two copies of one file, one behind the other, may do as one.
            at = rng.randrange(len(copies) - 1)
            if copies[at][0] == copies[at + 1][0]:
                copies[at:at + 2] = [[copies[at][0], copies[at][1], copies[at + 1][2]]]
        elif what == 4 and copies:
            # By way of cells far behind.
            at = rng.randrange(len(copies))
            serial, start, to = copies[at]
            copies[at:at + 1] = [[serial, start, 10 ** 7], [serial, 10 ** 7, to]]
        elif told.layout.regions:
            serial, place, size = rng.choice(places(told.layout))
            copies += [[serial, place, place + size + 10 ** 6], [serial, place + size + 10 ** 6, place]]

    def test_however_they_are_chosen(self):
        # All by way of far off cells, each by itself.
        far = [(3, 10, 500), (2, 5, 400), (1, 4, 300), (0, 0, 4), (3, 500, 2), (2, 400, 1), (1, 300, 0)]
        self.same(shows_copies(FULL, PUT, far), True)
        self.same(shows_copies(FULL, PUT, far[:2] + far[3:]), False)
        huge = [(0, 1, HUGE), (0, HUGE, 0)]
        self.same([shows_copies(NEAR, DROP, huge), shows_copies(NEAR, DROP, tuple(huge))], [True, True])
        # The cells of the dropped file are free from the first copy on; it is not copied itself.
        self.same(shows_copies(NEAR, DROP, [(0, 1, 5), (0, 5, 0)]), True)
        self.same(shows_copies(NEAR, DROP, [(1, 0, 9), (0, 1, 5), (0, 5, 0)]), False)
        for below in (-1, -4, -5, -50, -HUGE):
            self.same(shows_copies(NEAR, DROP, [(0, 1, below), (0, below, 0)]), False)
        self.same(shows_copies(NEAR, DROP, [(0, 1, 4), (0, 4, 0)]), False)
        self.same(shows_copies(NEAR, DROP, [(0, 1, 5), (0, 5, 1)]), False)
        self.same(shows_copies(NEAR, DROP, [(0, 2, 6), (0, 6, 0)]), False)
        self.same(shows_copies(NEAR, DROP, [(0, 1, 5), (0, 5, 0), (0, 0, 0)]), False)
        self.same(shows_copies(NEAR, DROP, [(0, 1, 5), (0, 5, 0), (7, 7, 8)]), False)

        self.same([shows_copies(FULL, PUT, TOLD.copies[:5] + ((3, 10, to), (3, to, 2))) for to in (-2, -1, 3, 10, 11)],
                  [False, False, True, False, True])

    def test_files_of_lesser_ranks_may_move_and_come_back(self):
        layout = Layout(2, 2, [(0, [("file", 0, 1)], []), (1, [("file", 1, 2)], [])])
        self.same(tidying(layout, ("drop", 1)).rank, 1)
        self.same(shows_copies(layout, ("drop", 1), ()), True)
        self.same(shows_copies(layout, ("drop", 1), [(0, 0, 1), (0, 1, 0)]), True)
        self.same(shows_copies(layout, ("drop", 1), [(0, 0, 1)]), False)
        self.same(shows_copies(layout, ("put", 2), [(2, 5, 4)]), False)
        self.same(shows_copies(layout, ("put", 2), tidying(layout, ("put", 2)).copies), True)

    def test_without_copies(self):
        layout = Layout(2, 1, [(0, [("file", 0, 1)], [])])
        self.same([shows_copies(layout, ("drop", 0), []), shows_copies(layout, ("drop", 0), ())], [True, True])
        self.same(shows_copies(layout, ("drop", 0), [(0, 0, 1)]), False)
        self.same(shows_copies(empty(2), ("put", 3), ()), False)
        self.same(shows_copies(empty(2), ("put", 3), [(0, 4, 0)]), True)

    def test_any_value(self):
        for value in NO_OBJECTS + [TOLD, TOLD.parts, Tidying, "copies", [TOLD.copies], {copy: 1 for copy in TOLD.copies}]:
            self.same(shows_copies(FULL, PUT, value), False)
        for wrong in NO_INTEGERS:
            for part in range(3):
                row = [list(copy) for copy in TOLD.copies]
                row[2][part] = wrong
                self.same(shows_copies(FULL, PUT, row), False)
            row = list(TOLD.copies)
            row[2] = wrong
            if wrong != (1, 2, 3):
                self.same(shows_copies(FULL, PUT, row), False)
        # True and False stand for no number: else this one would do.
        self.same(shows_copies(FULL, PUT, TOLD.copies[:2] + ((False, 0, 4),) + TOLD.copies[3:]), False)
        self.same(shows_copies(FULL, PUT, [TOLD.copies[0] + (0,)] + list(TOLD.copies[1:])), False)
        self.same(shows_copies(FULL, PUT, [TOLD.copies[0][:2]] + list(TOLD.copies[1:])), False)

    def test_what_is_passed_stays(self):
        row = [list(copy) for copy in TOLD.copies]
        before = [repr(row), repr(vars(FULL))]
        shows_copies(FULL, PUT, row)
        self.assertEqual([repr(row), repr(vars(FULL))], before)

    def test_errors_as_tidying(self):
        for value in NO_OBJECTS:
            self.bad(BadLayout, "layout", shows_copies, value, None, None)
            self.bad(BadDeeds, "deed", shows_copies, FULL, value, None)
        self.bad(BadDeeds, "deed", shows_copies, FULL, ("drop", -1), ())
        self.fails(NoFile, {"value": 3}, shows_copies, FULL, ("drop", 3), None)
        self.bad(Misfit, "room", shows_copies, FULL, ("drop", 1), None)
        self.bad(Misfit, "room", shows_copies, FULL, ("drop", 2), ())

    def test_long_rows(self):
        layout = Layout(64, 250, [(0, [("file", number, 1) for number in range(250)], [])])
        strip = Strip(64, 250, layout.regions)
        self.assertIsNotNone(strip.do(("put", 2)))
        row = list(tidying(layout, ("put", 2)).copies)
        row += [(0, 0, 9999), (0, 9999, 0)] * 2400
        self.same(shows_copies(layout, ("put", 2), row), True)
        self.same(shows_copies(layout, ("put", 2), row + [(0, 0, 9999)]), False)


if __name__ == "__main__":
    unittest.main()
