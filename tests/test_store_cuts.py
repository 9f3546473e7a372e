"""Stores whose power is cut: at each stroke and flush of a call, and while they come up."""
import copy
import random
import unittest

from priceblind.books import Book, meant
from priceblind.cuts import twin
from priceblind.disks import Disk
from priceblind.errors import Out
from priceblind.layouts import empty, length, live
from priceblind.states import after, state_of
from priceblind.stores import Store
from store_models import contents_told, random_call, told
from test_books import lots
from test_states import rest
from values import Case


def raises_out(call):
    try:
        call()
    except Out:
        return True
    return False


def cuts_of_call(rng, disk, store, word, parts):
    """For each stroke and flush of a call, and some lots that land: the disk behind the cut."""
    many, out = 1, True
    while out:
        other_disk, other = copy.deepcopy((disk, store))
        other_disk.fuse(many)
        out = raises_out(lambda: getattr(other, word)(*parts))
        for lands in lots(rng, len(other_disk.waiting())) if out else [[]]:
            behind = twin(other_disk)
            behind.cut(lands)
            yield out, behind
        many += 1


def cut_somewhere(rng, disk):
    disk.cut([number for number in range(len(disk.waiting())) if rng.random() < 0.5])


class OneCut(Case):
    def run_of(self, seed, many):
        """A random run: for each call (disk and store ahead of it, its name and arguments, what is told behind it)."""
        rng = random.Random(seed)
        q, greatest, most_files = rng.choice([2, 2, 3, 4]), rng.choice([1, 3, 7]), rng.choice([2, 4, 6])
        disk = Disk()
        store = Store(disk, q)
        for _ in range(many):
            word, parts = random_call(rng, store.names, store.views, greatest, most_files)
            ahead = copy.deepcopy((disk, store))
            getattr(store, word)(*parts)
            yield ahead[0], ahead[1], word, parts, told(store)

    def test_the_state_ahead_or_the_one_behind(self):
        rng, kinds = random.Random(5), set()
        for seed in range(5):
            for disk, store, word, parts, wanted in self.run_of(seed, 11):
                before = told(store)
                for out, behind in cuts_of_call(rng, disk, store, word, parts):
                    # What the book tells leads to one of the two.
                    state = rest(state_of(meant(behind)))
                    again = Store(behind)
                    found = told(again)
                    self.assertIn(found, (before, wanted) if out else (wanted,))
                    self.assertEqual(state, again.state)
                    self.assertEqual([state_of(meant(behind)), behind.waiting()], [again.state, ()])
                    kinds.add((word, found == before))
        self.assertEqual(kinds, {(word, old) for word in ("put", "drop", "view", "let_go") for old in (True, False)})

    def test_what_the_book_tells_is_on_the_way(self):
        rng = random.Random(6)
        for seed in range(6):
            for disk, store, word, parts, wanted in self.run_of(seed + 50, 10):
                ahead = store.state
                on_the_way = [ahead]
                number = {"drop": lambda: dict(ahead.names)[parts[0]], "view": lambda: ahead.begun,
                          "let_go": lambda: parts[0], "put": lambda: None}[word]()
                name = "letgo" if word == "let_go" else word
                record = self.put_record(parts) if word == "put" else (name, number)
                state = after(ahead, record)
                on_the_way.append(state)
                while state != rest(state):
                    state = after(state, ("copied",)) if state.copies else after(
                        state, ("drop", min(serial for serial in range(state.layout.puts) if self.is_lost(state, serial))))
                    on_the_way.append(state)
                for _, behind in cuts_of_call(rng, disk, store, word, parts):
                    self.assertIn(state_of(meant(behind)), on_the_way)

    def put_record(self, parts):
        number = 0
        for letter in parts[0]:
            number = number * 27 + ord(letter) - 96
        return ("put", number, len(parts[1]))

    def is_lost(self, state, serial):
        there = any(thing[:2] == ("file", serial) for _, payload, room in state.layout.regions for thing in payload + room)
        owned = [pair[1] for pair in state.names] + [pair[1] for _, pairs in state.views for pair in pairs]
        return there and serial not in owned

    def test_the_first_coming_up_is_cut(self):
        rng = random.Random(7)
        for strange in (False, True):
            disk = Disk()
            if strange:
                disk.write(1, 0, [4, 6, 3, 0, 0, 0, 0, 4, 12])
                disk.write(2, 0, [7] * 20)
                disk.flush()
            many, out = 1, True
            while out:
                cut = twin(disk)
                cut.fuse(many)
                out = raises_out(lambda: Store(cut, 5))
                for lands in lots(rng, len(cut.waiting())) if out else [[]]:
                    behind = twin(cut)
                    behind.cut(lands)
                    self.same(Store(behind, 5).state.begun, 0)
                    self.same([meant(behind), Store(behind).names], [(("start", 5, 0, 0),), ()])
                many += 1
            self.assertGreater(many, 16)

    def test_coming_up_is_cut_again_and_again(self):
        rng = random.Random(8)
        for seed in range(20):
            for disk, store, word, parts, wanted in self.run_of(seed + 100, 8):
                before = told(store)
                disk.fuse(rng.randint(1, 60))
                out = raises_out(lambda: getattr(store, word)(*parts))
                cut_somewhere(rng, disk)
                found = None
                for many in range(1, 60):
                    disk.fuse(many)
                    if not raises_out(lambda: Store(disk)):
                        break
                    cut_somewhere(rng, disk)
                    calm = twin(disk)
                    if found is None:
                        found = told(Store(calm))
                    # Once it is decided which of the two states it is, it stays so.
                    self.assertEqual(told(Store(twin(disk))), found)
                disk.no_fuse()
                again = Store(disk)
                self.assertIn(told(again), (before, wanted) if out else (wanted,))
                if found is not None:
                    self.assertEqual(told(again), found)

    def test_each_stroke_of_coming_up(self):
        rng = random.Random(9)
        disk = Disk()
        store = Store(disk, 2)
        for name, contents in (("a", [1] * 4), ("b", [2]), ("c", [3])):
            store.put(name, contents)
        store.view()
        store.drop("b")
        wanted_disk, wanted = copy.deepcopy((disk, store))
        wanted.put("d", [5])
        before = told(store)
        for out, behind in list(cuts_of_call(rng, disk, store, "put", ("d", [5])))[::13]:
            calm = told(Store(twin(behind)))
            self.assertIn(calm, (before, told(wanted)))
            many, out = 1, True
            while out:
                cut = twin(behind)
                cut.fuse(many)
                out = raises_out(lambda: Store(cut))
                cut_somewhere(rng, cut)
                self.assertEqual(told(Store(cut)), calm)
                many += 3


class Runs(Case):
    def test_told_the_same_however_often_each_was_cut(self):
        """Two stores to which the same is told; the power of one is cut over and over."""
        cuts = 0
        for seed in range(25):
            rng = random.Random(seed)
            q, greatest = rng.choice([2, 3, 8]), rng.choice([1, 4, 12])
            calm_disk, disk = Disk(), Disk()
            calm, store = Store(calm_disk, q), Store(disk, q)
            numbers = []
            for _ in range(40):
                word, parts = random_call(rng, calm.names, calm.views, greatest, 8)
                before = told(calm)
                number = getattr(calm, word)(*parts)
                numbers += [number] if word == "view" else []
                done = False
                while not done:
                    self.assertEqual(told(store), before)
                    disk.fuse(rng.randint(1, 150))
                    out = raises_out(lambda: getattr(store, word)(*parts))
                    if not out:
                        disk.no_fuse()
                    else:
                        cuts += 1
                        store = self.up_again(rng, disk)
                    done = told(store) == told(calm)
                self.same(store.files(), calm.files())
                self.assertEqual(contents_told(store), contents_told(calm))
            self.same(numbers, list(range(len(numbers))))
        self.assertGreater(cuts, 300)

    def up_again(self, rng, disk):
        while True:
            cut_somewhere(rng, disk)
            if rng.random() < 0.5:
                return Store(disk)
            disk.fuse(rng.randint(1, 100))
            try:
                store = Store(disk)
                disk.no_fuse()
                return store
            except Out:
                pass

    def test_the_bound_of_the_length_for_a_store(self):
        for seed in range(30):
            rng = random.Random(seed + 70)
            q = rng.choice([2, 3, 5, 64])
            store = Store(Disk(), q)
            self.assertEqual(store.layout, empty(q))
            for _ in range(60):
                word, parts = random_call(rng, store.names, store.views, rng.choice([2, 9, 30]), 12)
                getattr(store, word)(*parts)
                self.assertLessEqual((q - 1) * length(store.layout), (q + 1) * live(store.layout))

    def test_nothing_is_done_without_power(self):
        disk = Disk()
        store = Store(disk, 2)
        store.put("a", [1])
        store.view()
        calls = [("put", ("b", [1])), ("drop", ("a",)), ("view", ()), ("let_go", (0,))]
        for word, parts in calls:
            dark, other = copy.deepcopy((disk, store))
            dark.fuse(1)
            self.fails(Out, {}, getattr(other, word), *parts)
            self.same([dark.kept(track) for track in range(3)], [disk.kept(track) for track in range(3)])
            # Nothing of what is only asked writes, so it needs no power.
            other = Store(disk)
            disk.fuse(1)
            self.same([other.read("a"), other.size_of("a"), other.files(), other.names_in(0), other.read_in(0, "a")],
                      [(1,), 1, (("a", 0, 0, 1),), ("a",), (1,)])
            disk.no_fuse()
        empty_disk = Disk()
        empty_disk.fuse(1)
        self.fails(Out, {}, Store, empty_disk, 2)

    def test_a_book_goes_on_from_the_greater_generation(self):
        # A turning that was cut leaves a greater mark on the other track, which the next one takes a greater one than.
        disk = Disk()
        store = Store(disk, 2)
        store.view()
        generation = Book(disk).generation
        cut = twin(disk)
        cut.fuse(12)
        self.same(raises_out(lambda: Store(cut)), True)
        cut.cut(list(range(len(cut.waiting()))))
        self.same(Book(cut).generation, generation)
        store = Store(cut)
        self.same([Book(cut).generation, store.views], [generation + 3, (0,)])


if __name__ == "__main__":
    unittest.main()
