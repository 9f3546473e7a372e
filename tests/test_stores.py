import copy
import inspect
import random
import unittest

from priceblind import stores
from priceblind.books import Book, meant, name_number
from priceblind.disks import Disk
from priceblind.errors import (BadContents, BadDisk, BadName, BadNumber, Misfit, NoFile, NoView, Out, TooMany, Twice)
from priceblind.layouts import Layout
from priceblind.states import State, after, first_state, records_of, state_of
from priceblind.stores import Store
from store_models import Logged, StoreModel, names_from, random_call, told
from test_books import WHOLE, lay
from test_states import Model, random_records, rest
from values import HUGE, NO_INTEGERS, NO_NAMES, NO_OBJECTS, Case, out_of

TOP = 2 ** 63 - 1
METHODS = ("__init__", "put", "drop", "read", "size_of", "files", "view", "names_in", "read_in", "let_go")
NO_CONTENTS = [value for value in NO_OBJECTS if repr(value) not in ("[1]", "(1,)", "(1, 2, 3)")] + [
    "abc", b"abc", range(3), {1: 1}, {1}, [], (), [-1], [2 ** 63], [HUGE], [True], [False], [None], ["1"], [1.0], [[1]],
    [(1,)], [1, [2]], [1, None], [1, 2, -1], [0] * 4097, (0,) * 5000]


def shown(disk):
    """All that stands on a disk, and what waits."""
    return [disk.kept(0), disk.kept(1), disk.kept(2), disk.waiting()]


def small_store():
    disk = Logged()
    store = Store(disk, 4)
    store.put("a", [7, 8, 9])
    store.put("b", [5])
    store.view()
    store.put("c", [1, 2])
    return disk, store


class Example(Case):
    def test_example_of_the_interface(self):
        disk = Disk()
        store = Store(disk, 4)
        self.same([store.put("a", [7, 8, 9]), store.put("b", [5]), store.files(), store.read("a"), store.size_of("b"),
                   store.names], [None, None, (("a", 0, 1, 3), ("b", 1, 0, 1)), (7, 8, 9), 1, ("a", "b")])
        self.same(disk.kept(0), ((0, 5), (1, 7), (2, 8), (3, 9), (4, 5), (5, 7), (6, 8), (7, 9)))
        self.same(meant(disk), (("start", 4, 2, 0), ("region", 0), ("thing", 0, 0, 1, 1), ("region", 1),
                                ("thing", 0, 0, 0, 3), ("named", 0, 1), ("named", 1, 2)))
        self.same([store.view(), store.drop("a"), store.names, store.views, store.names_in(0), store.read_in(0, "a"),
                   store.layout.regions],
                  [0, None, ("b",), (0,), ("a", "b"), (7, 8, 9),
                   ((0, (("file", 1, 1),), ()), (1, (("file", 0, 3),), ()))])
        again = Store(disk)
        self.same([again.read_in(0, "a"), again.let_go(0), again.files(), again.layout.regions, again.views, again.q],
                  [(7, 8, 9), None, (("b", 1, 0, 1),), ((0, (("file", 1, 1),), ()),), (), 4])
        self.bad(Misfit, "q", Store, disk, 5)
        other = Store(Disk(), 4)
        self.same([other.put("a", [1]), other.view(), other.drop("a"), other.put("a", [2, 2]), other.read("a"),
                   other.read_in(0, "a")], [None, 0, None, None, (2, 2), (1,)])
        self.bad(BadNumber, "q", Store, Disk())
        self.fails(NoFile, {"value": 0}, store.read, 0)

    def test_all_is_defined_here(self):
        self.assertEqual(Store.__module__, stores.__name__)
        for name in METHODS:
            self.assertIn(name, vars(Store))
        parts = {"put": ["name", "contents"], "drop": ["name"], "read": ["name"], "size_of": ["name"], "files": [],
                 "view": [], "names_in": ["view"], "read_in": ["view", "name"], "let_go": ["view"],
                 "__init__": ["disk", "q"]}
        for name, wanted in parts.items():
            self.assertEqual(list(inspect.signature(getattr(Store, name)).parameters)[1:], wanted)

    def test_by_name(self):
        disk = Disk()
        store = Store(q=3, disk=disk)
        self.same([store.put(contents=(4, 5), name="ab"), store.view(), store.read(name="ab"), store.size_of(name="ab"),
                   store.names_in(view=0), store.read_in(name="ab", view=0), store.let_go(view=0), store.drop(name="ab")],
                  [None, 0, (4, 5), 2, ("ab",), (4, 5), None, None])
        self.same(Store(disk=disk).q, 3)

    def test_kinds_of_the_attributes(self):
        for store in (Store(Disk(), 2), small_store()[1]):
            self.assertEqual([type(part) for part in (store.q, store.layout, store.state, store.names, store.views)],
                             [int, Layout, State, tuple, tuple])

    def test_the_very_disk_is_kept(self):
        disk = Disk()
        store = Store(disk, 2)
        store.put("a", [6])
        self.same(disk.read(0, 0, 1), (6,))
        disk.fuse(1)
        self.fails(Out, {}, store.put, "b", [7])


class Made(Case):
    def test_wrong_disks(self):
        for value in NO_OBJECTS + [Disk, Book(Disk()), (Disk(),)]:
            self.bad(BadDisk, "disk", Store, value)
            self.bad(BadDisk, "disk", Store, value, "q")

    def test_wrong_q(self):
        written, strange = small_store()[0], Disk()
        lay(strange, 2, [(1, ("view", 0)), (1, WHOLE)])
        for disk in (Disk(), written, strange):
            before = shown(disk)
            for q in out_of(2, 64):
                if q is not None:
                    self.bad(BadNumber, "q", Store, disk, q)
            self.assertEqual(shown(disk), before)

    def test_without_a_q(self):
        junk, torn, other_track = Disk(), Disk(), Disk()
        junk.write(0, 0, [1] * 50)
        junk.flush()
        lay(torn, 2, [(1, ("start", 2, 0, 0)), (1, ("view", 0))])
        lay(other_track, 1, [(1, ("start", 2, 0, 0)), (1, WHOLE)])
        for disk in (Disk(), junk, torn, other_track):
            before = shown(disk)
            self.bad(BadNumber, "q", Store, disk)
            self.bad(BadNumber, "q", Store, disk, None)
            self.assertEqual(shown(disk), before)
            store = Store(disk, 7)
            self.same(told(store)[:6], [7, 0, (), (), (), 0])
            self.same(meant(disk), (("start", 7, 0, 0),))
            self.same(told(Store(disk)), told(store))

    def test_records_that_mean_nothing(self):
        for rows in ([("view", 0)], [("start", 1, 0, 0)], [("start", 65, 0, 0)], [("start", 2, 0, 0), ("copied",)],
                     [("start", 2, 0, 0), ("view", 1)], [("start", 2, 1, 0), ("region", 0), ("thing", 0, 0, 0, 1)],
                     [("start", 2, 0, 0), ("put", 0, 1)], [("start", 2, 0, 0), ("start", 2, 0, 0)], [("named", 0, 1)]):
            disk = Disk()
            Book(disk).turn(rows)
            before = shown(disk)
            for q in (None, 2, 3):
                self.bad(Misfit, "disk", Store, disk, q)
            self.bad(BadNumber, "q", Store, disk, 1)
            self.assertEqual(shown(disk), before)
        disk = Disk()
        lay(disk, 2, [(1, WHOLE)])
        self.bad(Misfit, "disk", Store, disk)

    def test_another_q_than_that_of_the_book(self):
        disk = small_store()[0]
        disk.taken()
        for q in [each for each in range(2, 65) if each != 4]:
            self.bad(Misfit, "q", Store, disk, q)
        self.same(disk.taken(), [])
        self.same([Store(disk, 4).q, Store(disk, None).q, Store(disk).q], [4, 4, 4])

    def test_a_disk_on_which_nothing_was_written(self):
        for q in range(2, 65):
            disk = Logged()
            store = Store(disk, q)
            self.same(disk.taken(), StoreModel(q).taken())
            self.same([store.q, store.names, store.views, store.files()], [q, (), (), ()])
            self.assertEqual(store.state, first_state(q))
            self.assertEqual(store.layout, first_state(q).layout)

    def test_it_is_turned_just_if_records_were_added(self):
        disk = Logged()
        store = Store(disk, 2)
        disk.taken()
        self.assertEqual(told(Store(disk)), told(store))
        self.same(disk.taken(), [])
        store.view()
        disk.taken()
        again = Store(disk)
        self.same(len(disk.taken()), 8 * 3)
        self.same([meant(disk), again.views], [(("start", 2, 0, 1), ("seen", 0)), (0,)])
        Store(disk)
        self.same(disk.taken(), [])


class Wrong(Case):
    def unchanged(self, disk, store, error, fields, call, *parts):
        """The call raises just this, writes nothing, changes nothing and takes nothing of a fuse."""
        before = [shown(disk), told(store), repr(parts)]
        disk.taken()
        disk.fuse(1)
        self.fails(error, fields, call, *parts)
        self.fails(Out, {}, disk.flush)
        disk.no_fuse()
        self.same(disk.taken(), [])
        self.assertEqual([shown(disk), told(store), repr(parts)], before)

    def test_names(self):
        disk, store = small_store()
        for name in NO_NAMES:
            self.unchanged(disk, store, BadName, {"part": "name"}, store.put, name, [1])
            self.unchanged(disk, store, BadName, {"part": "name"}, store.put, name, None)
        self.unchanged(disk, store, Twice, {"value": "a"}, store.put, "a", [1])
        self.unchanged(disk, store, Twice, {"value": "c"}, store.put, "c", (1, 2))
        # A name that a view alone has is free.
        store.drop("a")
        self.same([store.put("a", [4]), store.read("a"), store.read_in(0, "a")], [None, (4,), (7, 8, 9)])
        self.same([store.put("z" * 12, [3]), store.names], [None, ("a", "b", "c", "z" * 12)])

    def test_contents(self):
        disk, store = small_store()
        for contents in NO_CONTENTS:
            self.unchanged(disk, store, BadContents, {"part": "contents"}, store.put, "d", contents)
            # It comes ahead of a name that stands.
            self.unchanged(disk, store, BadContents, {"part": "contents"}, store.put, "a", contents)
        for number, contents in enumerate(([0], (TOP,), [TOP] * 4096, tuple(range(4096)))):
            name = "kept" + "abcd"[number]
            self.same([store.put(name, contents), store.read(name), store.size_of(name)],
                      [None, tuple(contents), len(contents)])

    def test_what_is_passed_may_change_behind_the_call(self):
        _, store = small_store()
        contents = [4, 5, 6]
        store.put("d", contents)
        self.same(contents, [4, 5, 6])
        contents[0] = 9
        contents.append(1)
        self.same(store.read("d"), (4, 5, 6))

    def test_no_file(self):
        disk, store = small_store()
        store.drop("a")
        for value in NO_OBJECTS + NO_NAMES + ["d", "a", "ab", ("b",), ["b"], b"b"]:
            for call in (store.drop, store.read, store.size_of):
                self.unchanged(disk, store, NoFile, {"value": value}, call, value)
        for value in [each for each in NO_OBJECTS if each != "a"] + ["d", "c", "ab", ("b",), ["b"], 0]:
            self.unchanged(disk, store, NoFile, {"value": value}, store.read_in, 0, value)
        self.same(store.read_in(0, "a"), (7, 8, 9))

    def test_what_only_says_that_it_is_equal(self):
        class Same:
            def __eq__(self, other):
                return True

            def __hash__(self):
                return hash("a")

        disk, store = small_store()
        value = Same()
        self.unchanged(disk, store, BadName, {"part": "name"}, store.put, value, [1])
        self.unchanged(disk, store, BadContents, {"part": "contents"}, store.put, "d", [value])
        for call in (store.drop, store.read, store.size_of):
            self.unchanged(disk, store, NoFile, {"value": value}, call, value)
        for call in (store.names_in, store.let_go):
            self.unchanged(disk, store, NoView, {"value": value}, call, value)
        self.unchanged(disk, store, NoFile, {"value": value}, store.read_in, 0, value)
        self.bad(BadNumber, "q", Store, disk, value)

    def test_no_view(self):
        disk, store = small_store()
        store.view()
        store.let_go(0)
        for value in NO_INTEGERS + [0, 2, -1, HUGE, "a", [1], (1,), 1.0, True]:
            for call in (store.names_in, store.let_go):
                self.unchanged(disk, store, NoView, {"value": value}, call, value)
            for name in ("a", "d", None):
                self.unchanged(disk, store, NoView, {"value": value}, store.read_in, value, name)
        self.same([store.names_in(1), store.let_go(1), store.views], [("a", "b", "c"), None, ()])
        self.unchanged(disk, store, NoView, {"value": 1}, store.let_go, 1)

    def test_200_files(self):
        disk = Logged()
        store = Store(disk, 64)
        names = names_from(202)
        for name in names[:200]:
            self.assertIsNone(store.put(name, [len(name)]))
        self.unchanged(disk, store, TooMany, {"what": "files", "most": 200}, store.put, names[200], [1])
        # What does not fit comes ahead of it.
        self.unchanged(disk, store, Twice, {"value": "a"}, store.put, "a", [1])
        self.unchanged(disk, store, BadContents, {"part": "contents"}, store.put, names[200], [])
        store.view()
        store.drop("a")
        # A file that a view alone has counts, too.
        self.unchanged(disk, store, TooMany, {"what": "files", "most": 200}, store.put, names[200], [1])
        store.let_go(0)
        self.same([store.put(names[200], [3]), len(store.names), len(Store(disk).names)], [None, 200, 200])
        self.unchanged(disk, store, TooMany, {"what": "files", "most": 200}, store.put, names[201], [1])

    def test_20_views(self):
        disk, store = small_store()
        self.same([store.view() for _ in range(19)], list(range(1, 20)))
        self.unchanged(disk, store, TooMany, {"what": "views", "most": 20}, store.view)
        store.let_go(7)
        self.same([store.view(), store.views], [20, tuple(k for k in range(21) if k != 7)])
        self.unchanged(disk, store, TooMany, {"what": "views", "most": 20}, store.view)
        again = Store(disk)
        self.unchanged(disk, again, TooMany, {"what": "views", "most": 20}, again.view)


class Written(Case):
    def check(self, model, disk, store):
        state = model.state
        self.same(disk.taken(), model.taken())
        self.same(disk.kept(0), model.kept())
        self.assertEqual(disk.waiting(), ())
        self.same([store.q, store.layout.puts, store.layout.regions, store.names, store.views, store.files()],
                  [state.strip.q, state.strip.puts, state.strip.parts(), tuple(sorted(state.names)),
                   tuple(sorted(state.views)), model.files()])
        for name, serial in state.names.items():
            self.same([store.read(name), store.size_of(name)], [model.contents[serial], len(model.contents[serial])])
        for number, view in state.views.items():
            self.same(store.names_in(number), tuple(sorted(view)))
            for name, serial in view.items():
                self.same(store.read_in(number, name), model.contents[serial])
        self.assertEqual(store.state, state_of(meant(disk)))
        self.same([store.state.copies, store.layout == store.state.layout, records_of(store.state)],
                  [(), True, model.state.turned()])

    def test_random_calls_against_the_model(self):
        for seed in range(50):
            rng = random.Random(seed)
            q, greatest, most_files = rng.choice([2, 2, 3, 5, 64]), rng.choice([1, 2, 9, 30]), rng.choice([3, 8, 20])
            disk, model = Logged(), StoreModel(q)
            store = Store(disk, q)
            self.check(model, disk, store)
            for _ in range(60):
                word, parts = random_call(rng, model.state.names, model.state.views, greatest, most_files)
                self.same(getattr(store, word)(*parts), getattr(model, word)(*parts))
                self.check(model, disk, store)
                if rng.random() < 0.1:
                    store = Store(disk, rng.choice([None, q]))
                    if model.added:
                        model.turn()
                    self.check(model, disk, store)

    def test_it_is_turned_at_1000_records(self):
        disk, model = Logged(), StoreModel(3)
        store = Store(disk, 3)
        self.same(disk.taken(), model.taken())
        for number in range(1001):
            for word, parts in (("view", ()), ("let_go", (number,))):
                self.same(getattr(store, word)(*parts), getattr(model, word)(*parts))
                log = disk.taken()
                self.same(log, model.taken())
                self.same(len(log) > 8, number in (499, 999) and word == "let_go")
        self.same(meant(disk), (("start", 3, 0, 1000), ("view", 1000), ("letgo", 1000)))

    def test_unowned_files_are_dropped_one_by_one(self):
        disk, model = Logged(), StoreModel(2)
        store = Store(disk, 2)
        calls = [("put", ("a", [1])), ("put", ("b", [2, 2])), ("put", ("c", [3, 3, 3])), ("put", ("d", [4] * 4)), ("view", ()),
                 ("drop", ("c",)), ("drop", ("a",)), ("view", ()), ("drop", ("d",)), ("let_go", (0,)), ("let_go", (1,))]
        dropped = []
        for word, parts in calls:
            getattr(store, word)(*parts)
            getattr(model, word)(*parts)
            log = disk.taken()
            self.same(log, model.taken())
            # The cells behind the marks of records of "drop" on the track to which they were added.
            rows = [log[at:at + 8] for at in range(len(log)) if log[at] != "flush" and log[at][0][0] in (1, 2)
                    and log[at][0][1] % 6 == 1]
            dropped.append([each[1][1] for each in rows if each[0][1] == 2 and each[5] == "flush"])
        self.same(dropped[5:], [[2], [0], [], [3], [0, 2], [3]])
        self.same([store.names, store.read("b")], [("b",), (2, 2)])

    def test_a_tidying_without_copies_turns_nothing(self):
        disk = Logged()
        store = Store(disk, 2)
        store.put("a", [1, 2, 3])
        disk.taken()
        store.drop("a")
        self.same(len(disk.taken()), 8)
        self.same([meant(disk)[-1], store.layout.regions], [("drop", 0), ()])

    def test_contents_ahead_of_the_record(self):
        disk = Logged()
        store = Store(disk, 2)
        store.put("a", [5] * 4)
        disk.taken()
        store.put("b", [6])
        log = disk.taken()
        self.same(log[:2], [((0, 4), 6), "flush"])
        # Behind start, region, thing, named and whole.
        self.same(log[2:], [((1, 31), 1), ((1, 32), 2), ((1, 33), 1), ((1, 34), 0), ((1, 35), 0), "flush", ((1, 30), 2), "flush"])

    def test_up_to_256_files_and_5000_cells(self):
        disk = Disk()
        store = Store(disk, 2)
        for number, name in enumerate(names_from(200)):
            store.put(name, [number] * (1 + number % 24 * 2))
        views = [store.view() for _ in range(20)]
        for name in names_from(200)[::2]:
            store.drop(name)
        again = Store(disk)
        for number, name in enumerate(names_from(200)):
            self.same(again.read_in(number % 20, name), (number,) * (1 + number % 24 * 2))
        for view in views:
            again.let_go(view)
        self.same(again.names, tuple(sorted(names_from(200)[1::2])))
        self.assertEqual(told(Store(disk)), told(again))

    def test_two_stores_in_turn(self):
        one_disk, other_disk = Disk(), Disk()
        one, other = Store(one_disk, 2), Store(other_disk, 3)
        one.put("a", [1])
        other.put("a", [2, 2])
        self.same([one.read("a"), other.read("a"), one.q, other.q], [(1,), (2, 2), 2, 3])


class Views(Case):
    def test_views_read_the_same_whatever_comes(self):
        for seed in range(30):
            rng = random.Random(seed + 900)
            q = rng.choice([2, 3, 7])
            store, seen = Store(Disk(), q), {}
            for _ in range(80):
                word, parts = random_call(rng, store.names, store.views, rng.choice([2, 12]), 9)
                if word == "let_go":
                    del seen[parts[0]]
                files = [(name, store.read(name)) for name in store.names]
                number = getattr(store, word)(*parts)
                if word == "view":
                    seen[number] = files
                for view, wanted in seen.items():
                    self.same([(name, store.read_in(view, name)) for name in store.names_in(view)], wanted)
                self.same(store.views, tuple(seen))

    def test_a_file_that_a_view_has_stays_in_the_layout(self):
        store = Store(Disk(), 2)
        store.put("a", [1, 2])
        self.same([store.view(), store.view()], [0, 1])
        before = store.layout
        store.drop("a")
        self.same([store.layout == before, store.names, store.files()], [True, (), ()])
        store.let_go(1)
        self.same([store.layout == before, store.read_in(0, "a")], [True, (1, 2)])
        store.let_go(0)
        self.same([store.layout.regions, store.layout.puts, store.views], [(), 1, ()])

    def test_a_view_of_nothing(self):
        store = Store(Disk(), 2)
        self.same([store.view(), store.names_in(0), store.put("a", [1]), store.names_in(0), store.let_go(0)],
                  [0, (), None, (), None])

    def test_numbers_never_come_twice(self):
        disk = Disk()
        store, numbers = Store(disk, 2), []
        for _ in range(30):
            numbers.append(store.view())
            store.let_go(numbers[-1])
            store = Store(disk)
        self.same(numbers, list(range(30)))


def lay_files(disk, state, contents):
    """Writes contents to where the files of a state are: to where the first copy of one is made from, or to its place."""
    lies = {serial: (at, size) for serial, (at, size, _, _) in state.strip.files().items()}
    for serial, start, _ in reversed(state.copies):
        lies[serial] = (start, lies[serial][1])
    for serial, (at, size) in lies.items():
        contents.setdefault(serial, [1000 * serial + number + 1 for number in range(size)])
        disk.write(0, at, contents[serial])
    disk.flush()


class ComingUp(Case):
    def test_books_laid_by_another_hand(self):
        left, lost = 0, 0
        for seed in range(150):
            rng = random.Random(seed)
            q, greatest = rng.choice([2, 3, 5]), rng.choice([1, 3, 9])
            model, records = Model(q), [("start", q, 0, 0)]
            for _ in range(rng.randint(1, 40)):
                record = random_records(rng, model, greatest, 8)
                if copy.deepcopy(model).follow(record):
                    model.follow(record)
                    records.append(record)
                if model.lost() and rng.random() < 0.5:
                    break
            left, lost = left + bool(model.copies), lost + bool(model.lost())
            disk, contents = Disk(), {}
            lay_files(disk, model, contents)
            self.lay_book(rng, disk, records)
            self.come_up(disk, model, contents, q)
        self.assertGreater(min(left, lost), 10)

    def lay_book(self, rng, disk, records):
        # Where `whole` stands, and whether more than once, makes no difference to what the records mean.
        at = rng.randint(1, len(records))
        if rng.random() < 0.5:
            book = Book(disk)
            book.turn(records[:at])
            for record in records[at:]:
                book.add(record)
        else:
            mark = rng.randint(1, 9)
            rows = records[:at] + [WHOLE] + records[at:]
            if rng.random() < 0.3:
                rows.insert(rng.randint(at, len(rows)), WHOLE)
            lay(disk, 2 if mark % 2 else 1, [(mark, each) for each in rows])

    def come_up(self, disk, model, contents, q):
        added = Book(disk).added > 0 or bool(model.copies or model.lost())
        generation, records = Book(disk).generation, meant(disk)
        store = Store(disk, None)
        while model.copies or model.lost():
            model.follow(("copied",) if model.copies else ("drop", model.lost()[0]))
        self.same([store.q, store.layout.puts, store.layout.regions, store.names, store.views, store.state.begun],
                  [q, model.strip.puts, model.strip.parts(), tuple(sorted(model.names)), tuple(sorted(model.views)),
                   model.begun])
        for name, serial in model.names.items():
            self.same(store.read(name), tuple(contents[serial]))
        for number, view in model.views.items():
            for name, serial in view.items():
                self.same(store.read_in(number, name), tuple(contents[serial]))
        self.same(meant(disk), model.turned() if added else records)
        self.same([Book(disk).generation != generation, Book(disk).added], [added, 0])
        self.assertEqual(told(Store(disk)), told(store))

    def test_a_book_torn_at_any_row(self):
        disk, store = Disk(), None
        store = Store(disk, 2)
        for number, name in enumerate(names_from(5)):
            store.put(name, [number + 1] * (number + 1))
        store.view()
        store.drop("a")
        track, generation = (2, Book(disk).generation) if Book(disk).generation % 2 else (1, Book(disk).generation)
        many = max(at for at, _ in disk.kept(track)) // 6 + 1
        kinds = set()
        for at in range(many):
            for cell, value in ((0, 0), (0, generation - 1), (0, generation + 2), (1, 0), (1, 13), (1, 3), (5, 1), (4, TOP)):
                torn = copy.deepcopy(disk)
                torn.write(track, 6 * at + cell, [value])
                torn.flush()
                kinds.add(self.come_up_torn(torn))
                # The same without the older book on the other track.
                torn = copy.deepcopy(disk)
                torn.write(track, 6 * at + cell, [value])
                torn.write(3 - track, 0, [0] * 4000)
                torn.flush()
                kinds.add(self.come_up_torn(torn))
        self.assertEqual(kinds, {"none", "nonsense", "state"})

    def come_up_torn(self, disk):
        records, before = meant(disk), shown(disk)
        if Book(disk).generation == 0:
            self.bad(BadNumber, "q", Store, disk)
            self.assertEqual(shown(disk), before)
            self.same(Store(disk, 9).names, ())
            return "none"
        try:
            state = state_of(records)
        except Misfit:
            self.bad(Misfit, "disk", Store, disk)
            self.assertEqual(shown(disk), before)
            return "nonsense"
        store = Store(disk)
        self.assertEqual(store.state, rest(state))
        return "state"

    def test_turned_to_a_record_of_a_copy(self):
        # A copy that stands ahead of `whole` was not added since the book was turned.
        disk = Disk()
        disk.write(0, 0, [6, 6])
        disk.flush()
        Book(disk).turn([("start", 2, 0, 0), ("put", 1, 2), ("copied",)])
        store = Store(disk)
        self.same([Book(disk).generation, store.read("a"), store.view(), store.put("b", [1]), Book(disk).generation],
                  [1, (6, 6), 0, None, 1])
        self.same(meant(disk)[3:], (("view", 0), ("put", 2, 1)))

    def test_many_files_and_views_laid_by_another_hand(self):
        state = first_state(64)
        for name in names_from(200):
            state = rest(after(state, ("put", name_number(name), 3)))
        for number in range(20):
            state = after(state, ("view", number))
        disk = Disk()
        Book(disk).turn(records_of(state))
        store = Store(disk)
        self.same([len(store.names), store.views, store.size_of("z"), store.read("z")],
                  [200, tuple(range(20)), 3, (0, 0, 0)])
        self.assertEqual(store.state, state)
        self.fails(TooMany, {"what": "files", "most": 200}, store.put, "new", [1])
        self.fails(TooMany, {"what": "views", "most": 20}, store.view)
        for name in store.names:
            store.drop(name)
        self.same(len(store.names_in(7)), 200)
        for number in range(20):
            store.let_go(number)
        self.same([store.layout.regions, store.layout.puts], [(), 200])


if __name__ == "__main__":
    unittest.main()
