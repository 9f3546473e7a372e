import unittest

from models import Strip, random_deeds
from priceblind import tidyings
from priceblind.errors import BadDeeds, BadLayout, BadNumber, Misfit, NoFile
from priceblind.layouts import Layout, dropped, empty, length, live, places, put_in, rank_of
from priceblind.papers import Denial, Paper
from priceblind.steps import step
from priceblind.tidyings import Tidying, anew, rank_from, tidying
from values import HUGE, NO_INTEGERS, NO_OBJECTS, Case, out_of

FULL = Layout(2, 3, [(2, [("file", 0, 4)], [("file", 1, 1), ("file", 2, 1)])])
NEAR = Layout(2, 4, [(0, [("file", 1, 1)], []), (2, [("file", 0, 4)], [("gone", 2, 1), ("gone", 3, 1)])])
# Of rank 0 a hole, its shade in its own room; of rank 2 rooms with things of lesser ranks and of its own.
MIXED = Layout(2, 9, [(0, [("file", 1, 1), ("hole", 2, 1)], [("shade", 2, 1)]),
                      (2, [("file", 0, 4), ("file", 3, 7)], [("file", 4, 2), ("gone", 5, 2)]),
                      (4, [("file", 6, 16)], [("file", 7, 4)])])
WRONG_DEEDS = NO_OBJECTS + [
    ("put",), ("drop",), ("put", 1, 1), ("Put", 1), ("put", 0), ("put", 4097), ("put", HUGE), ("put", -1), ("put", True),
    ("put", None), ("put", "1"), ("put", [1]), ("put", 1.0), ("drop", -1), ("drop", True), ("drop", None), ("drop", "0"),
    ("drop", (0,)), ("drop", 0.0), (True, 1), (None, 1), (0, 1), (["put"], 1), (("put",), 1), ("copied", 1), "pu", {"put": 1},
    {"put", 1}, [("put", 1)], ["put", ["put", 1]], ("", 1), (b"put", 1)]


def runs(many, greatest=300):
    """Random runs by the model: (q, deed, Strip ahead, Layout ahead, Layout behind, the Tidying or None)."""
    for seed in range(many):
        q, deeds = random_deeds(seed, 50, 14)
        if max(number for word, number in deeds if word == "put") > greatest:
            continue
        strip, layout = Strip(q), empty(q)
        for deed in deeds:
            behind, told = step(layout, deed)
            yield q, deed, Strip(q, strip.puts, strip.parts()), layout, behind, told
            strip.do(deed)
            layout = behind


class Example(Case):
    def test_example_of_the_interface(self):
        told = tidying(FULL, ("put", 1))
        self.same([told.rank, told.far, told.copies],
                  [0, 10, ((1, 4, 11), (2, 5, 12), (0, 0, 4), (1, 11, 0), (2, 12, 1), (3, 10, 2))])
        self.same(told.layout.regions,
                  ((0, (("file", 1, 1), ("file", 2, 1), ("file", 3, 1)), ()), (2, (("file", 0, 4),), ())))
        self.same([rank_from(FULL, 4), rank_from(FULL, 9), anew(FULL, 0, None, 0).regions],
                  [0, 3, ((0, (("file", 1, 1), ("file", 2, 1)), ()),)])
        self.same(tidying(NEAR, ("drop", 1)).copies, ((0, 1, 7), (0, 7, 0)))
        self.bad(Misfit, "room", tidying, FULL, ("drop", 1))
        self.bad(Misfit, "rank", anew, FULL, 1)

    def test_all_are_defined_here(self):
        for each in (rank_from, anew, Tidying, tidying):
            self.assertEqual(each.__module__, tidyings.__name__)
        self.assertIn("__init__", vars(Tidying))

    def test_by_name(self):
        self.same([rank_from(layout=FULL, size=9), anew(layout=FULL, rank=0, drop=0, put=3).regions],
                  [3, ((0, (("file", 1, 1), ("file", 2, 1)), ()), (1, (("file", 3, 3),), ()))])
        self.assertEqual(tidying(layout=NEAR, deed=["drop", 1]), tidying(NEAR, ("drop", 1)))


class Ranks(Case):
    def test_as_the_model_tells(self):
        for _, _, strip, layout, _, _ in runs(40):
            for size in (1, 2, 4, 9, 64, 4096):
                self.same(rank_from(layout, size), strip.least_rank(size))

    def test_it_falls_more_than_once(self):
        layout = Layout(2, 5, [(1, [("file", 0, 2)], [("file", 4, 1)]), (3, [("file", 1, 8)], [("gone", 3, 2)])])
        self.same([rank_from(layout, size) for size in (1, 2, 4, 8, 16)], [0, 0, 0, 0, 4])
        self.same([rank_from(MIXED, size) for size in (1, 2, 4, 8, 16, 32)], [0, 1, 1, 1, 1, 5])
        self.same([rank_from(empty(2), 1), rank_from(empty(2), 4096)], [0, 12])

    def test_errors(self):
        for value in NO_OBJECTS + [Layout]:
            self.bad(BadLayout, "layout", rank_from, value, None)
        for size in out_of(1, 4096):
            self.bad(BadNumber, "size", rank_from, FULL, size)


class Anew(Case):
    def test_as_the_model_tells(self):
        for q, _, strip, layout, _, _ in runs(25):
            files = strip.files()
            for rank in (0, 1, 2, 3, 12):
                for put in (None, 1, 2, 8):
                    for drop in [None] + list(files)[:3]:
                        self.check(strip, layout, rank, put, drop)

    def check(self, strip, layout, rank, put, drop):
        if any(r >= rank and rank_of(thing[2]) < rank for r, _, room in layout.regions for thing in room):
            self.bad(Misfit, "rank", anew, layout, rank, put, drop)
        elif put is not None and rank_of(put) < rank:
            self.bad(Misfit, "put", anew, layout, rank, put, drop)
        elif drop is not None and strip.files()[drop][3] < rank:
            self.bad(Misfit, "drop", anew, layout, rank, put, drop)
        else:
            other = Strip(strip.q, strip.puts, strip.parts())
            other.set_out(rank, put, drop)
            made = anew(layout, rank, put, drop)
            self.assertEqual((made.q, made.puts, made.regions), (strip.q, other.puts, other.parts()))
            self.assertEqual(Layout(made.q, made.puts, made.regions), made)

    def test_regions_of_lesser_ranks_stay(self):
        made = anew(MIXED, 1, 40, 3)
        self.same(made.regions, (MIXED.regions[0], (1, (("file", 4, 2),), ()),
                                 (2, (("file", 0, 4), ("file", 7, 4)), ()), (4, (("file", 6, 16),), ()),
                                 (5, (("file", 9, 40),), ())))
        self.same([made.puts, anew(MIXED, 1).puts, anew(MIXED, 5) == MIXED, anew(empty(3), 0) == empty(3)],
                  [10, 9, True, True])

    def test_errors_in_their_order(self):
        for value in NO_OBJECTS + [Layout]:
            self.bad(BadLayout, "layout", anew, value, None, 0, -1)
        for rank in out_of(0, 12):
            self.bad(BadNumber, "rank", anew, FULL, rank, 0, -1)
        for put in out_of(1, 4096):
            if put is not None:
                self.bad(BadNumber, "put", anew, FULL, 1, put, -1)
        for drop in NO_INTEGERS + [-1, 3, HUGE]:
            if drop is not None:
                self.bad(BadNumber, "drop", anew, FULL, 1, None, drop)
                self.bad(BadNumber, "drop", anew, FULL, 1, 1, drop)
        self.bad(BadNumber, "drop", anew, NEAR, 0, None, 2)
        self.bad(Misfit, "rank", anew, MIXED, 3, 1, 1)
        self.bad(Misfit, "rank", anew, MIXED, 2, 1, 1)
        self.bad(Misfit, "put", anew, MIXED, 1, 1, 1)
        self.bad(Misfit, "drop", anew, MIXED, 1, 2, 1)
        self.bad(Misfit, "drop", anew, MIXED, 1, None, 1)
        self.bad(BadNumber, "drop", anew, MIXED, 1, 2, 2)


class Papers(Case):
    def test_a_paper_of_any_parts(self):
        made = Tidying(1, [2, [3]], "far", [[0, 1, 2]])
        self.assertIsInstance(made, Paper)
        self.assertNotIsInstance(made, Denial)
        self.assertEqual(Tidying.__bases__, (Paper,))
        self.same([made.word, made.parts], ["tidying", (1, (2, (3,)), "far", ((0, 1, 2),))])
        self.same([made.rank, made.layout, made.far, made.copies], [1, (2, (3,)), "far", ((0, 1, 2),)])
        self.assertIs(bool(made), True)
        self.assertIs(bool(Tidying(0, None, False, ())), True)
        for value in NO_OBJECTS:
            made = Tidying(value, value, value, value)
            self.same([made.rank, made.far], [made.layout, made.copies])

    def test_equal(self):
        told = tidying(NEAR, ("drop", 1))
        self.assertIs(told == Tidying(0, told.layout, 7, [[0, 1, 7], [0, 7, 0]]), True)
        self.assertIs(told == Tidying(copies=told.copies, far=7, layout=told.layout, rank=0), True)
        for other in (Tidying(1, told.layout, 7, told.copies), Tidying(0, NEAR, 7, told.copies), None, told.parts,
                      Tidying(0, told.layout, 8, told.copies), Tidying(0, told.layout, 7, told.copies[1:]),
                      Paper("tidying", 0, told.layout, 7, told.copies)):
            self.assertIs(told == other, False)
            self.assertIs(other == told, False)

    def test_what_is_told(self):
        told = tidying(FULL, ("put", 1))
        self.assertIs(type(told), Tidying)
        self.assertEqual(told.parts, (told.rank, told.layout, told.far, told.copies))
        self.same(told.word, "tidying")

    def test_parts_stay_whatever_becomes_of_the_lists(self):
        copies = [[0, 1, 2]]
        made = Tidying(0, None, 0, copies)
        copies[0][0] = 5
        copies.append(1)
        self.same([made.copies, made.parts[3]], [((0, 1, 2),)] * 2)


class Tidied(Case):
    def test_all_copies_as_the_model_makes_them(self):
        many = 0
        for _, deed, strip, layout, behind, _ in runs(150):
            wanted = strip.do(deed)
            if wanted is None:
                self.bad(Misfit, "room", tidying, layout, deed)
            else:
                told = tidying(layout, list(deed))
                self.same((told.rank, told.far, told.copies), wanted)
                self.same((told.layout.regions, told.layout.puts), (strip.parts(), strip.puts))
                self.assertEqual(told.layout, behind)
                many += 1
        self.assertGreater(many, 1000)

    def test_no_copy_goes_over_cells_that_a_file_has(self):
        for _, deed, _, layout, behind, told in runs(100):
            if told is not None:
                self.follow(layout, behind, deed, told)

    def follow(self, layout, behind, deed, told):
        cells, sizes, counts = {}, {}, {}
        for serial, place, size in places(layout) + places(behind):
            sizes[serial] = size
        for serial, place, size in places(layout):
            if deed != ("drop", serial):
                cells.update({place + k: serial for k in range(size)})
        if deed[0] == "put":
            for k in range(deed[1]):
                self.assertNotIn(told.far + k, cells)
                cells[told.far + k] = layout.puts
        in_rooms = {thing[1] for _, _, room in layout.regions for thing in room}
        for serial, start, to in told.copies:
            self.assertEqual([cells.pop(start + k) for k in range(sizes[serial])], [serial] * sizes[serial])
            for k in range(sizes[serial]):
                self.assertTrue(to + k < start or to + k >= start + sizes[serial])
                self.assertNotIn(to + k, cells)
                cells[to + k] = serial
            counts[serial] = counts.get(serial, 0) + 1
        self.assertEqual(cells, {place + k: serial for serial, place, size in places(behind) for k in range(size)})
        for serial, many in counts.items():
            self.assertLessEqual(many, 1 if serial == layout.puts else 2 if serial in in_rooms else 4)

    def test_nothing_is_written_too_far_behind(self):
        for q, deed, _, layout, behind, told in runs(100):
            if told is None:
                continue
            sizes = {serial: size for serial, _, size in places(layout) + places(behind)}
            ends = [to + sizes[serial] for serial, _, to in told.copies]
            if deed[0] == "put":
                ends.append(told.far + deed[1])
            lives = max(live(layout), live(behind))
            for end in ends:
                self.assertLessEqual((q - 1) * (end - 1 - 2 * max(sizes.values())), (q + 2) * lives)

    def test_a_file_that_goes_by_less_than_its_size_goes_twice(self):
        # The file of 8 goes to the left by 1 and then to the right by 3, each time by way of far.
        layout = Layout(2, 3, [(0, [("hole", 0, 1)], []), (3, [("file", 1, 8)], [("file", 2, 3), ("shade", 0, 1)])])
        told = tidying(layout, ("put", 2))
        self.same([told.rank, told.far, told.copies],
                  [0, 19, ((2, 9, 21), (1, 1, 24), (1, 24, 0), (1, 0, 24), (1, 24, 7), (2, 21, 0), (3, 19, 3), )])

    def test_the_dropped_file_is_left_out(self):
        layout = Layout(2, 3, [(1, [("file", 0, 2), ("file", 1, 2)], [("file", 2, 2)])])
        told = tidying(layout, ("drop", 0))
        self.same([told.rank, told.far, told.copies, told.layout.puts],
                  [1, 6, ((2, 4, 6), (1, 2, 0), (2, 6, 2)), 3])
        self.same(told.layout.regions, ((1, (("file", 1, 2), ("file", 2, 2)), ()),))

    def test_without_copies(self):
        told = tidying(Layout(2, 1, [(0, [("file", 0, 1)], [])]), ("drop", 0))
        self.same([told.rank, told.layout.regions, told.far, told.copies], [0, (), 1, ()])
        told = tidying(empty(2), ("put", 4096))
        self.same([told.rank, told.far, told.copies], [12, 4096 + 2048, ((0, 6144, 0),)])

    def test_errors_in_their_order(self):
        for value in NO_OBJECTS + [Layout, FULL.regions]:
            self.bad(BadLayout, "layout", tidying, value, None)
        for deed in WRONG_DEEDS:
            self.bad(BadDeeds, "deed", tidying, FULL, deed)
        for serial in (3, 4, HUGE):
            self.fails(NoFile, {"value": serial}, tidying, FULL, ["drop", serial])
        self.fails(NoFile, {"value": 2}, tidying, NEAR, ("drop", 2))
        self.fails(NoFile, {"value": 1}, tidying, dropped(FULL, 1), ("drop", 1))
        self.bad(Misfit, "room", tidying, put_in(Layout(2, 1, [(2, [("file", 0, 4)], [])]), 1), ("put", 1))
        self.bad(Misfit, "room", tidying, Layout(2, 2, [(0, [("file", 0, 1), ("file", 1, 1)], [])]), ("drop", 1))

    def test_what_is_passed_stays(self):
        deed = ["put", 1]
        before = repr(vars(FULL))
        told = tidying(FULL, deed)
        deed[1] = 7
        self.same([told.layout.regions[0][1][2], repr(vars(FULL)) == before, length(FULL)], [("file", 3, 1), True, 6])


if __name__ == "__main__":
    unittest.main()
