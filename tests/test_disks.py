import random
import unittest
from itertools import combinations

from priceblind import disks
from priceblind.disks import Disk
from priceblind.errors import BadNumber, Out
from values import HUGE, NO_INTEGERS, Case, out_of

LAST = 10000000
TOP = 2 ** 63 - 1


class Model:
    """A disk as the document tells it, in the plainest way: events, and what is left of them."""

    def __init__(self):
        self.landed = []
        self.waits = []
        self.left = None

    def act(self, change):
        if self.left is not None:
            self.left -= 1
            if self.left <= 0:
                raise Out()
        change()

    def write(self, track, at, values):
        for number, value in enumerate(values):
            self.act(lambda: self.waits.append(((track, at + number), value)))

    def flush(self):
        self.act(lambda: self.cut(range(len(self.waits)), fuse=self.left))

    def cut(self, lands, fuse=None):
        self.landed += [self.waits[number] for number in lands]
        self.waits = []
        self.left = fuse

    def read(self, track, at, many):
        cells = dict(self.landed + self.waits)
        return tuple(cells.get((track, cell), 0) for cell in range(at, at + many))

    def kept(self, track):
        cells = dict(self.landed)
        return tuple(sorted((at, value) for (on, at), value in cells.items() if on == track and value))


def tried(call, *parts):
    try:
        return call(*parts)
    except Out:
        return "out"


class Example(Case):
    def test_example_of_the_interface(self):
        disk = Disk()
        self.same([disk.write(0, 5, [7, 8]), disk.flush(), disk.write(0, 6, [9]), disk.write(1, 0, (0, 3)),
                   disk.waiting()], [None, None, None, None, (((0, 6), 9), ((1, 0), 0), ((1, 1), 3))])
        self.same([disk.read(0, 4, 4), disk.kept(0), disk.kept(track=1)], [(0, 7, 9, 0), ((5, 7), (6, 8)), ()])
        self.same([disk.cut([0]), disk.waiting(), disk.kept(0), disk.kept(1), disk.fuse(2)],
                  [None, (), ((5, 7), (6, 9)), (), None])
        self.fails(Out, {}, disk.write, 2, 0, [1, 2, 3])
        self.fails(Out, {}, disk.flush)
        self.same([disk.waiting(), disk.read(2, 0, 2), disk.no_fuse(), disk.flush(), disk.kept(2)],
                  [(((2, 0), 1),), (1, 0), None, None, ((0, 1),)])
        self.bad(BadNumber, "lands", disk.cut, [0])

    def test_all_is_defined_in_the_class_itself(self):
        self.assertEqual(Disk.__module__, disks.__name__)
        for name in "write flush read kept waiting cut fuse no_fuse".split():
            self.assertIn(name, vars(Disk))

    def test_by_name(self):
        disk = Disk()
        disk.write(track=0, at=1, values=[2])
        disk.fuse(many=1)
        disk.cut(lands=[0])
        self.same(disk.read(track=0, at=1, many=1), (2,))


class New(Case):
    def test_nothing_is_written_yet(self):
        disk = Disk()
        for track in range(3):
            self.same(disk.kept(track), ())
            self.same(disk.read(track, 0, 3), (0, 0, 0))
            self.same(disk.read(track, LAST - 4095, 4096), (0,) * 4096)
        self.same(disk.waiting(), ())
        self.same([disk.flush(), disk.cut([]), disk.no_fuse(), disk.cut(())], [None] * 4)

    def test_disks_share_nothing(self):
        one, other = Disk(), Disk()
        one.write(0, 0, [1])
        one.flush()
        one.write(0, 1, [1])
        one.fuse(1)
        self.same([other.kept(0), other.waiting(), other.flush()], [(), (), None])


class AgainstTheModel(Case):
    def test_random_runs_against_the_model(self):
        for seed in range(60):
            self.run_one(random.Random(seed))

    def run_one(self, rng):
        disk, model = Disk(), Model()
        for _ in range(60):
            deed = rng.choice("write write write flush cut fuse no_fuse".split())
            if deed == "write":
                parts = (rng.randrange(3), rng.randrange(6), [rng.randrange(4) for _ in range(rng.randrange(5))])
                self.assertEqual(tried(disk.write, *parts), tried(model.write, *parts))
            elif deed == "flush":
                self.assertEqual(tried(disk.flush), tried(model.flush))
            elif deed == "cut":
                lands = [number for number in range(len(model.waits)) if rng.random() < 0.5]
                self.assertIsNone(disk.cut(lands))
                model.cut(lands)
            elif deed == "fuse":
                model.left = rng.randint(1, 12)
                self.assertIsNone(disk.fuse(model.left))
            else:
                model.left = None
                self.assertIsNone(disk.no_fuse())
            self.same(disk.waiting(), tuple(model.waits))
            for track in range(3):
                self.same(disk.read(track, 0, 12), model.read(track, 0, 12))
                self.same(disk.kept(track), model.kept(track))


class Strokes(Case):
    def test_a_cell_reads_as_what_was_written_last(self):
        disk = Disk()
        disk.write(1, 3, [5])
        self.same([disk.read(1, 3, 1), disk.kept(1)], [(5,), ()])
        disk.flush()
        self.same([disk.read(1, 3, 1), disk.kept(1)], [(5,), ((3, 5),)])
        disk.write(1, 3, [6])
        disk.write(1, 3, [0])
        self.same([disk.read(1, 3, 1), disk.kept(1)], [(0,), ((3, 5),)])
        disk.flush()
        self.same([disk.read(1, 3, 1), disk.kept(1), disk.read(0, 3, 1), disk.read(2, 3, 1)], [(0,), (), (0,), (0,)])

    def test_lost_strokes_do_not_read(self):
        disk = Disk()
        disk.write(0, 0, [1])
        disk.flush()
        disk.write(0, 0, [2, 3])
        disk.cut([1])
        self.same(disk.read(0, 0, 2), (1, 3))

    def test_each_lot_of_strokes_may_land(self):
        strokes = [(0, 1), (0, 2), (1, 3), (0, 0)]
        for many in range(5):
            for lands in combinations(range(4), many):
                disk = Disk()
                disk.write(2, 0, [9, 9])
                disk.flush()
                for at, value in strokes:
                    disk.write(2, at, [value])
                self.assertIsNone(disk.cut(lot_of(lands)))
                wanted = {0: 9, 1: 9}
                for number in lands:
                    wanted[strokes[number][0]] = strokes[number][1]
                self.same(disk.kept(2), tuple(pair for pair in sorted(wanted.items()) if pair[1]))
                self.same([disk.waiting(), disk.flush(), disk.read(2, 0, 2)],
                          [(), None, (wanted[0], wanted[1])])

    def test_kept_is_ascending_without_zeros(self):
        disk = Disk()
        disk.write(0, 9, [1])
        disk.write(0, 10, [4])
        disk.write(0, 2, [2, 0, 3])
        disk.flush()
        disk.write(0, 9, [0])
        self.same(disk.kept(0), ((2, 2), (4, 3), (9, 1), (10, 4)))
        disk.flush()
        self.same(disk.kept(0), ((2, 2), (4, 3), (10, 4)))

    def test_what_is_passed_may_change_behind_the_call(self):
        disk, values, lands = Disk(), [1, 2], [0]
        disk.write(0, 0, values)
        values[0] = 7
        values.append(8)
        self.same(disk.read(0, 0, 3), (1, 2, 0))
        disk.cut(lands)
        lands.append(1)
        self.same([disk.kept(0), values, lands], [((0, 1),), [7, 2, 8], [0, 1]])

    def test_what_is_returned_stays(self):
        disk = Disk()
        disk.write(0, 0, [1])
        told = [disk.waiting(), disk.read(0, 0, 1), disk.kept(0)]
        disk.flush()
        disk.write(0, 0, [2])
        self.same(told, [(((0, 0), 1),), (1,), ()])


def lot_of(lands):
    return list(lands) if len(lands) % 2 else tuple(lands)


class Bounds(Case):
    def test_the_last_values_within(self):
        disk = Disk()
        disk.write(0, LAST, [TOP])
        disk.write(2, LAST - 4095, [1] * 4096)
        disk.write(1, 0, range_of(4096))
        disk.flush()
        self.same([disk.read(0, LAST, 1), disk.kept(0)], [(TOP,), ((LAST, TOP),)])
        self.same(disk.read(2, LAST - 4095, 4096), (1,) * 4096)
        self.same(disk.read(1, 0, 4096), tuple(range(4096)))
        self.same([disk.read(0, LAST, 0), disk.read(0, 0, 0), disk.write(0, LAST, [])], [(), (), None])

    def test_tracks(self):
        disk = Disk()
        for track in out_of(0, 2):
            self.bad(BadNumber, "track", disk.write, track, 0, [1])
            self.bad(BadNumber, "track", disk.read, track, 0, 1)
            self.bad(BadNumber, "track", disk.kept, track)

    def test_cells(self):
        disk = Disk()
        for at in out_of(0, LAST):
            self.bad(BadNumber, "at", disk.write, 0, at, [1])
            self.bad(BadNumber, "at", disk.read, 0, at, 1)

    def test_values(self):
        disk = Disk()
        for value in out_of(0, TOP):
            self.bad(BadNumber, "values", disk.write, 0, 0, [value])
            self.bad(BadNumber, "values", disk.write, 0, 0, [1, value, 1])
        for values in NO_INTEGERS + [0, 1, HUGE, {0: 1}, "12"]:
            if not isinstance(values, (list, tuple)) or values == ((),) or values == [[1]]:
                self.bad(BadNumber, "values", disk.write, 0, 0, values)
        self.bad(BadNumber, "values", disk.write, 0, 0, [1] * 4097)
        self.bad(BadNumber, "values", disk.write, 0, 0, [1] * 20000)
        self.bad(BadNumber, "values", disk.write, 0, LAST, [1, 1])
        self.bad(BadNumber, "values", disk.write, 0, LAST - 4094, [1] * 4096)
        self.same([disk.waiting(), disk.kept(0)], [(), ()])

    def test_how_many_are_read(self):
        disk = Disk()
        for many in out_of(0, 4096):
            self.bad(BadNumber, "many", disk.read, 0, 0, many)
        self.bad(BadNumber, "many", disk.read, 0, LAST, 2)
        self.bad(BadNumber, "many", disk.read, 0, LAST - 4094, 4096)
        self.same(len(disk.read(0, LAST - 4094, 4095)), 4095)

    def test_lots(self):
        disk = Disk()
        disk.write(0, 0, [1, 2, 3])
        wrong = [[3], [-1], [0, 0], [1, 0], [0, 1, 2, 3], [True], [0, None], ["0"], [0.0], [[0]], 0, None, "0", {0: 1},
                 {0}, True, range(2), [HUGE], (2, 1)]
        for lands in wrong:
            self.bad(BadNumber, "lands", disk.cut, lands)
        self.same(len(disk.waiting()), 3)
        disk.cut((0, 2))
        self.same(disk.kept(0), ((0, 1), (2, 3)))

    def test_fuses(self):
        disk = Disk()
        for many in out_of(1, None):
            self.bad(BadNumber, "many", disk.fuse, many)
        self.same([disk.flush(), disk.fuse(HUGE), disk.write(0, 0, [1]), disk.flush()], [None] * 4)

    def test_the_first_wrong_parameter_first(self):
        disk = Disk()
        self.bad(BadNumber, "track", disk.write, 3, -1, [-1])
        self.bad(BadNumber, "track", disk.write, None, None, None)
        self.bad(BadNumber, "at", disk.write, 0, -1, [-1])
        self.bad(BadNumber, "track", disk.read, True, True, True)
        self.bad(BadNumber, "at", disk.read, 0, LAST + 1, 5000)
        disk.fuse(1)
        self.bad(BadNumber, "values", disk.write, 0, 0, [1, -1])
        self.bad(BadNumber, "track", disk.write, 3, 0, [])
        self.fails(Out, {}, disk.write, 0, 0, [1])


class Fuses(Case):
    def test_each_stroke_and_flush_counts(self):
        for many in range(1, 9):
            disk = Disk()
            disk.fuse(many)
            done = 0
            for call, parts, cost in ((disk.write, (0, 0, [1, 2]), 2), (disk.flush, (), 1),
                                      (disk.write, (1, 5, [3]), 1), (disk.flush, (), 1), (disk.write, (0, 2, [4, 5]), 2)):
                if done + cost < many:
                    self.assertIsNone(call(*parts))
                else:
                    self.fails(Out, {}, call, *parts)
                done += cost
            self.assertEqual(len(disk.kept(0)), 2 if many > 3 else 0)

    def test_the_strokes_ahead_of_the_one_that_raises_wait(self):
        for many in range(1, 6):
            disk = Disk()
            disk.fuse(many)
            self.fails(Out, {}, disk.write, 0, 7, [1, 2, 3, 4, 5])
            self.same(disk.waiting(), tuple(((0, 7 + k), 1 + k) for k in range(many - 1)))
            self.fails(Out, {}, disk.flush)
            self.fails(Out, {}, disk.write, 0, 0, [1])
            self.same(len(disk.waiting()), many - 1)
            self.same(disk.kept(0), ())

    def test_other_errors_and_empty_writes_spend_nothing(self):
        disk = Disk()
        disk.fuse(2)
        for _ in range(5):
            self.bad(BadNumber, "values", disk.write, 0, 0, [-1])
            self.bad(BadNumber, "values", disk.write, 0, 0, [1] * 5000)
            self.bad(BadNumber, "lands", disk.cut, [0])
            self.bad(BadNumber, "many", disk.fuse, 0)
            self.bad(BadNumber, "many", disk.read, 0, 0, -1)
            self.assertIsNone(disk.write(0, 0, []))
            self.same([disk.read(0, 0, 2), disk.kept(0), disk.waiting()], [(0, 0), (), ()])
        self.assertIsNone(disk.write(0, 0, [1]))
        self.fails(Out, {}, disk.flush)
        # A write of no values has no stroke that could raise it.
        self.same([disk.write(0, 0, []), disk.write(0, 0, ())], [None, None])

    def test_reading_goes_on_without_power(self):
        disk = Disk()
        disk.write(0, 0, [1])
        disk.flush()
        disk.fuse(1)
        self.fails(Out, {}, disk.write, 0, 0, [2])
        self.same([disk.read(0, 0, 1), disk.kept(0), disk.waiting()], [(1,), ((0, 1),), ()])

    def test_a_fuse_takes_the_place_of_one_ahead(self):
        disk = Disk()
        disk.fuse(1)
        disk.fuse(3)
        self.same([disk.write(0, 0, [1]), disk.flush()], [None, None])
        disk.fuse(1)
        self.fails(Out, {}, disk.flush)
        disk.fuse(2)
        self.assertIsNone(disk.flush())
        self.fails(Out, {}, disk.flush)

    def test_it_is_taken_out(self):
        for take in (lambda disk: disk.no_fuse(), lambda disk: disk.cut([])):
            disk = Disk()
            disk.fuse(1)
            self.fails(Out, {}, disk.flush)
            take(disk)
            self.same([disk.write(0, 0, [1]), disk.flush(), disk.kept(0)], [None, None, ((0, 1),)])

    def test_a_cut_that_is_refused_leaves_it(self):
        disk = Disk()
        disk.fuse(1)
        self.bad(BadNumber, "lands", disk.cut, [0])
        self.fails(Out, {}, disk.flush)


def range_of(many):
    return tuple(range(many))


if __name__ == "__main__":
    unittest.main()
