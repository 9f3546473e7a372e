import random
import unittest
from itertools import combinations

from priceblind import cuts
from priceblind.cuts import behind, may_lie, twin
from priceblind.disks import Disk
from priceblind.errors import BadDisk, BadNumber, Out
from values import NO_OBJECTS, Case, out_of

LAST = 10000000


def told(disk):
    return [[disk.kept(track) for track in range(3)], disk.waiting(), [disk.read(track, 0, 12) for track in range(3)]]


def random_disk(seed):
    rng = random.Random(seed)
    disk = Disk()
    for _ in range(4):
        disk.write(rng.randrange(3), rng.randrange(5), [rng.randrange(3) for _ in range(3)])
    disk.flush()
    disk.write(rng.randrange(3), rng.randrange(5), [rng.randrange(3) for _ in range(2)])
    disk.write(rng.randrange(3), rng.randrange(5), [rng.randrange(3) for _ in range(2)])
    return disk


def all_lots(many):
    return [lands for some in range(many + 1) for lands in combinations(range(many), some)]


class Cuts(Case):
    def test_example_of_the_interface(self):
        strip = Disk()
        self.same([strip.write(0, 1, [5]), strip.flush(), strip.write(0, 1, [6, 6]), strip.write(0, 1, [0]),
                   strip.write(2, 7, [4])], [None] * 5)
        self.same([behind(strip, [1, 3]), behind(strip, (0, 2)), may_lie(strip, 0, 1), may_lie(strip, 0, 2),
                   may_lie(strip, 1, 7)],
                  [(((1, 5), (2, 6)), (), ((7, 4),)), ((), (), ()), (0, 5, 6), (0, 6), (0,)])
        self.same([twin(strip).flush(), len(strip.waiting())], [None, 4])

    def test_all_are_defined_here(self):
        for function in (twin, behind, may_lie):
            self.assertEqual(function.__module__, cuts.__name__)

    def test_by_name(self):
        disk = random_disk(1)
        self.same(behind(disk=disk, lands=[0]), behind(disk, [0]))
        self.same(may_lie(disk=disk, track=0, at=1), may_lie(disk, 0, 1))
        self.same(told(twin(disk=disk)), told(disk))

    def test_behind_tells_what_a_cut_leaves(self):
        for seed in range(20):
            disk = random_disk(seed)
            before = told(disk)
            for lands in all_lots(4):
                other = random_disk(seed)
                other.cut(lands)
                self.same(behind(disk, list(lands)), tuple(other.kept(track) for track in range(3)))
                self.same(told(disk), before)

    def test_may_lie_tells_what_some_cut_leaves(self):
        for seed in range(20):
            disk = random_disk(seed)
            for track in range(3):
                for at in range(8):
                    found = {dict(behind(disk, lands)[track]).get(at, 0) for lands in all_lots(4)}
                    self.same(may_lie(disk, track, at), tuple(sorted(found)))
        self.same(may_lie(Disk(), 2, LAST), (0,))

    def test_a_flush_leaves_one_choice(self):
        disk = random_disk(3)
        disk.flush()
        self.same(may_lie(disk, 0, 1), disk.read(0, 1, 1))

    def test_a_twin_is_alike(self):
        for seed in range(10):
            disk = random_disk(seed)
            other = twin(disk)
            self.assertIsInstance(other, Disk)
            self.assertIsNot(other, disk)
            self.same(told(other), told(disk))

    def test_what_is_done_to_one_changes_nothing_of_the_other(self):
        for first in (0, 1):
            for change in (lambda disk: disk.flush(), lambda disk: disk.cut([1]), lambda disk: disk.cut([]),
                           lambda disk: disk.write(0, 0, [9, 9]), lambda disk: disk.fuse(1)):
                disk = random_disk(5)
                pair = [disk, twin(disk)]
                before = told(pair[1 - first])
                change(pair[first])
                self.same(told(pair[1 - first]), before)
                self.assertIsNone(pair[1 - first].flush())

    def test_as_much_of_a_fuse_is_left(self):
        for spent in range(4):
            disk = Disk()
            disk.fuse(4)
            disk.write(0, 0, [1] * min(spent, 3))
            if spent == 3:
                self.fails(Out, {}, disk.write, 0, 5, [1])
            other = twin(disk)
            for each in (other, disk):
                for _ in range(3 - min(spent, 3)):
                    each.flush()
                self.fails(Out, {}, each.flush)
        self.assertIsNone(twin(Disk()).flush())

    def test_a_twin_may_go_on_without_a_fuse(self):
        disk = Disk()
        disk.fuse(1)
        other = twin(disk)
        other.no_fuse()
        self.assertIsNone(other.flush())
        self.fails(Out, {}, disk.flush)

    def test_behind_leaves_the_fuse(self):
        disk = Disk()
        disk.fuse(1)
        self.same(behind(disk, []), ((), (), ()))
        self.fails(Out, {}, disk.flush)

    def test_wrong_disks(self):
        for value in NO_OBJECTS + [Disk]:
            self.bad(BadDisk, "disk", twin, value)
            self.bad(BadDisk, "disk", behind, value, [0])
            self.bad(BadDisk, "disk", behind, value, None)
            self.bad(BadDisk, "disk", may_lie, value, None, None)

    def test_wrong_numbers(self):
        disk = random_disk(2)
        for lands in ([4], [-1], [1, 1], [1, 0], [True], None, 0, "0", {0: 0}, [None], [[0]]):
            self.bad(BadNumber, "lands", behind, disk, lands)
        for track in out_of(0, 2):
            self.bad(BadNumber, "track", may_lie, disk, track, None)
        for at in out_of(0, LAST):
            self.bad(BadNumber, "at", may_lie, disk, 0, at)


if __name__ == "__main__":
    unittest.main()
