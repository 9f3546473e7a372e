import copy
import random
import unittest

from models import Strip, is_let, random_deeds, rank
from priceblind import layouts
from priceblind.errors import BadLayout, BadNumber, BadText, Misfit
from priceblind.layouts import (Layout, dropped, empty, length, live, places, put_in, rank_of, read_layout,
                                room_for)
from priceblind.steps import step
from values import HUGE, NO_INTEGERS, NO_OBJECTS, Case, out_of

ONE = Layout(2, 1, [(2, [("file", 0, 4)], [])])
TWO = put_in(put_in(ONE, 1), 1)
WIDE = Layout(2, 4, [(0, [("file", 1, 1), ("file", 2, 1), ("file", 3, 1)], []), (2, [("file", 0, 4)], [])])
FUNCTIONS = {places: (), length: (), live: (), room_for: (1,), put_in: (1,), dropped: (0,)}


def runs(many, greatest=300):
    """Random runs: pairs of a q and deeds; the model is slow with files greater than some hundred cells."""
    for seed in range(many):
        q, deeds = random_deeds(seed, 40, 12)
        if max(number for word, number in deeds if word == "put") <= greatest:
            yield q, deeds


class Example(Case):
    def test_example_of_the_interface(self):
        self.same([[rank_of(size) for size in (1, 2, 3, 4, 4096)], empty(2).regions, str(empty(3)), length(empty(2))],
                  [[0, 1, 1, 2, 12], (), "q 3 puts 0", 0])
        one = Layout(2, 1, [(2, [("file", 0, 4)], [])])
        two = put_in(put_in(one, 1), 1)
        self.same([two.puts, two.regions, places(two), length(two), live(two)],
                  [3, ((2, (("file", 0, 4),), (("file", 1, 1), ("file", 2, 1))),),
                   ((0, 0, 4), (1, 4, 1), (2, 5, 1)), 6, 6])
        self.same([room_for(one, 2), room_for(one, 3), room_for(two, 1), str(two), read_layout(str(two)) == two],
                  [2, None, None, "q 2 puts 3 / 2 file 0 4 room file 1 1 file 2 1", True])
        self.same([dropped(two, 1).regions[0][2], live(dropped(two, 1)), length(dropped(two, 1))],
                  [(("gone", 1, 1), ("file", 2, 1)), 5, 6])
        self.same([length(WIDE), room_for(WIDE, 1), room_for(WIDE, 2), dropped(WIDE, 2).regions[0],
                   places(dropped(WIDE, 2))],
                  [10, 0, 2, (0, (("file", 1, 1), ("hole", 2, 1), ("file", 3, 1)), (("shade", 2, 1),)),
                   ((1, 0, 1), (3, 2, 1), (0, 4, 4))])
        self.bad(Misfit, "room", dropped, two, 0)
        self.bad(BadLayout, "regions", Layout, 2, 5,
                 [(0, [("file", 1, 1), ("file", 2, 1), ("file", 3, 1)], []),
                  (2, [("file", 0, 4)], [("file", 4, 1)])])
        self.fails(BadText, {"item": 7}, read_layout, "q 2 puts 1 / 2 file 1 4 room")

    def test_all_are_defined_here(self):
        for each in (rank_of, Layout, read_layout, empty, places, length, live, room_for, put_in, dropped):
            self.assertEqual(each.__module__, layouts.__name__)
        for name in ("__init__", "__eq__", "__str__"):
            self.assertIn(name, vars(Layout))

    def test_by_name(self):
        self.assertEqual(Layout(q=2, puts=1, regions=[(2, [("file", 0, 4)], [])]), ONE)
        self.same([rank_of(size=5), empty(q=3).q, length(layout=TWO), live(layout=TWO), room_for(layout=ONE, size=2)],
                  [2, 3, 6, 6, 2])
        self.assertEqual([put_in(layout=ONE, size=1), dropped(layout=TWO, serial=1), read_layout(text=str(TWO))],
                         [put_in(ONE, 1), dropped(TWO, 1), TWO])
        self.same(places(layout=TWO), places(TWO))


class Ranks(Case):
    def test_all_sizes(self):
        self.assertEqual([rank_of(size) for size in range(1, 4097)], [rank(size) for size in range(1, 4097)])
        for size in out_of(1, 4096):
            self.bad(BadNumber, "size", rank_of, size)


class Made(Case):
    def test_q_and_puts(self):
        for q in range(2, 65):
            self.same([empty(q).q, empty(q).puts, empty(q).regions, Layout(q, HUGE, ()).puts], [q, 0, (), HUGE])
        for q in out_of(2, 64):
            self.bad(BadNumber, "q", empty, q)
            self.bad(BadNumber, "q", Layout, q, None, None)
        for puts in out_of(0, None):
            self.bad(BadNumber, "puts", Layout, 2, puts, None)
        self.bad(BadLayout, "regions", Layout, 2, 0, None)

    def test_what_is_no_list_of_regions(self):
        file = ("file", 0, 1)
        wrong = [value for value in NO_OBJECTS if value not in ((), [])] + [
            [()], [(0,)], [(0, [file])], [(0, [file], [], [])], [(0, [file], [], None)], [(0, file, [])],
            [(0, [file], None)], [(0, None, [])], [(0, [], [])], [("0", [file], [])], [(False, [file], [])],
            [(None, [file], [])], [([0], [file], [])], [(-1, [file], [])], [(13, [file], [])], [(HUGE, [file], [])],
            [(1, [file], [])], [(0, "file", [])], [(0, [file], "")], [(0, [file], {})], [(0, {file: 1}, [])], "regions",
            (0, [file], []), [[0, [file], []], 0], [[0, [file], []], []], [(0, [file], [file])], [(0, [file, file], [])]]
        for word in ("gone", "shade", "room", "", "File", None, True, 0, ["file"], ("file",), b"file"):
            wrong.append([(0, [(word, 0, 1)], [])])
        for serial in out_of(0, 0):
            wrong.append([(0, [("file", serial, 1)], [])])
        for size in out_of(1, 1):
            wrong.append([(0, [("file", 0, size)], [])])
        for thing in NO_INTEGERS + ["file", ["file"], ["file", 0], ("file", 0, 1, 1), {"file": 0}, ("file", (0, 1))]:
            wrong.append([(0, [thing], [])])
        for value in wrong:
            self.bad(BadLayout, "regions", Layout, 2, 1, value)

    def test_wrong_things_in_a_room(self):
        good = [(2, [("file", 0, 4)], [("file", 1, 1), ("gone", 2, 1)])]
        self.assertEqual(Layout(2, 3, good).regions[0][2], (("file", 1, 1), ("gone", 2, 1)))
        for thing in ([("hole", 2, 1)], [("file", 3, 1)], [("file", -1, 1)], [("file", True, 1)], [("file", 2, True)],
                      [("file", 2, 0)], [("file", 2, 2)], [("gone", 0, 1)], [("gone", 1, 1)], [("shade", 2, 1)],
                      [("shade", 0, 4)], [("file", 2)], [None], ["gone"], [("gone", 2, 1), ()], None, "gone", 0, [[]],
                      [("gone", 2, 4097)], [("Gone", 2, 1)], [(None, 2, 1)], [("gone", "2", 1)], [("gone", 2, HUGE)]):
            room = [("file", 1, 1)] + thing if isinstance(thing, list) else thing
            self.bad(BadLayout, "regions", Layout, 2, 3, [(2, [("file", 0, 4)], room)])

    def test_the_greatest(self):
        huge = Layout(64, HUGE, [(12, [("file", HUGE - 1, 4096)], [])])
        self.same([length(huge), live(huge), room_for(huge, 64), room_for(huge, 65)], [4160, 4096, 12, None])

    def test_the_sentences_one_by_one(self):
        payload = [("file", 1, 1), ("hole", 2, 1), ("file", 4, 1)]
        good = [(0, payload, [("shade", 2, 1)]), (2, [("file", 3, 4)], [("file", 5, 2)])]
        Layout(2, 6, good)
        lists = [
            # Serials below puts; ascending in a payload; no two of one serial.
            (5, good), (6, [(0, payload[::-1], [("shade", 2, 1)]), good[1]]),
            (6, [(0, payload, [("shade", 2, 1)]), (2, [("file", 4, 4)], [("file", 5, 2)])]),
            # Ranks of things, and of regions.
            (6, good[::-1]), (6, [good[0], good[0]]), (6, [(0, [("file", 1, 1)], []), (0, [("file", 2, 1)], [])]), (6, [(0, [("file", 1, 2)], [])]), (6, [(1, [("file", 1, 1)], [])]),
            (9, [(0, [("file", k, 1) for k in range(4)], [("file", 5, 2)])]),
            # No more used than the room has.
            (6, [(0, payload, [("shade", 2, 1), ("file", 5, 1)])]), (6, [good[0], (2, [("file", 3, 4)], [("file", 5, 3)])]),
            # Files and gone ones of a room are later than the payload of their own rank.
            (6, [(2, [("file", 3, 4), ("file", 5, 5)], [("file", 4, 4)])]),
            (6, [(2, [("file", 3, 4), ("file", 5, 5)], [("gone", 4, 4)])]),
            (7, [(0, [("file", 1, 1), ("file", 4, 1)], [("file", 0, 1)])]),
            (7, [(0, [("file", 6, 1)], []), (2, [("file", 3, 4)], [("file", 5, 1)])]),
            # Each hole has one shade, and there are no other ones.
            (6, [(0, payload, []), good[1]]), (6, [(0, payload, [("shade", 1, 1)])]),
            (6, [(0, payload, [("shade", 2, 1)]), (2, [("file", 3, 4)], [("shade", 2, 1)])]),
            (6, [(0, payload, []), (2, [("file", 3, 4)], [("shade", 2, 2)])]),
            (6, [(0, payload[:1], []), (2, [("file", 3, 4)], [("shade", 2, 1)])]),
            # All passed over what is ahead.
            (6, [(0, payload, []), (2, [("file", 3, 4)], [("shade", 2, 1)])]),
            (6, [(0, [("file", 1, 1), ("file", 4, 1)], []), (2, [("file", 3, 4)], [("gone", 5, 1)])]),
            (7, [(1, [("file", 1, 2), ("file", 2, 2)], []), (2, [("file", 3, 4)], [("file", 5, 2)])]),
            (7, [(1, [("file", 1, 2), ("file", 2, 2)], []), (2, [("file", 3, 4)], [("file", 5, 1)])])]
        for puts, regions in lists:
            self.bad(BadLayout, "regions", Layout, 2, puts, regions)
        # The same, but nothing that has to pass over a region ahead of it is there.
        Layout(2, 7, [(1, [("file", 1, 2)], []), (2, [("file", 3, 4)], [("file", 5, 2)])])
        Layout(2, 7, [(2, [("file", 3, 4), ("file", 4, 4)], [("file", 5, 4)]), (3, [("file", 0, 8)], [("file", 6, 4)])])
        # A shade may be earlier than the payload of its rank.
        Layout(2, 7, [(0, [("hole", 1, 1), ("file", 4, 1)], [("shade", 1, 1)])])

    def test_changed_layouts_are_let_just_as_the_sentences_tell(self):
        rng = random.Random(5)
        let = 0
        for q, deeds in runs(60, 9):
            strip = Strip(q)
            for deed in deeds:
                strip.do(deed)
                if rng.random() < 0.5:
                    regions = changed(rng, strip)
                    wanted = is_let(q, strip.puts, regions)
                    let += wanted
                    if wanted:
                        self.assertEqual(Layout(q, strip.puts, regions).regions, regions)
                    else:
                        self.bad(BadLayout, "regions", Layout, q, strip.puts, regions)
        self.assertGreater(let, 50)

    def test_attributes_are_tuples_all_the_way_in(self):
        regions = [[2, [["file", 0, 4]], [["file", 1, 1], ["gone", 2, 1]]]]
        before = copy.deepcopy(regions)
        layout = Layout(2, 3, regions)
        wanted = ((2, (("file", 0, 4),), (("file", 1, 1), ("gone", 2, 1))),)
        self.same([layout.q, layout.puts, layout.regions], [2, 3, wanted])
        self.same(regions, before)
        regions[0][2][0][0] = "gone"
        regions[0][1].append(["file", 9, 4])
        regions.append(7)
        self.same(layout.regions, wanted)
        self.same(Layout(2, 3, wanted).regions, wanted)
        self.assertEqual(sorted(vars(layout)), ["puts", "q", "regions"])

    def test_equal(self):
        regions = [(2, [("file", 0, 4)], [])]
        self.assertIs(Layout(2, 1, regions) == Layout(2, 1, tuple(regions)), True)
        self.assertIs(Layout(2, 1, regions) != ONE, False)
        for other in (Layout(3, 1, regions), Layout(2, 2, regions), Layout(2, 1, [(2, [("file", 0, 5)], [])]), TWO,
                      empty(2), str(ONE), ONE.regions, None, True, 0, (2, 1, ONE.regions), object(), Layout):
            self.assertIs(ONE == other, False)
            self.assertIs(other == ONE, False)
            self.assertIs(ONE != other, True)


def changed(rng, strip):
    """The strip's regions with one thing made different."""
    regions = [[r, [list(t) for t in payload], [list(t) for t in room]] for r, payload, room in strip.parts()]
    if regions:
        region = rng.choice(regions)
        rows = rng.choice(region[1:])
        what = rng.randrange(6)
        if what == 0 and rows:
            rng.choice(rows)[1] = rng.randrange(strip.puts)
        elif what == 1 and rows:
            rng.choice(rows)[2] = rng.randint(1, 9)
        elif what == 2 and rows:
            rows.pop(rng.randrange(len(rows)))
        elif what == 3 and rows:
            words = ["file", "hole"] if rows is region[1] else ["file", "gone", "shade"]
            rng.choice(rows)[0] = rng.choice(words)
        elif what == 4 and region[2]:
            moved = region[2].pop(rng.randrange(len(region[2])))
            other = rng.choice(regions)
            other[2].insert(rng.randint(0, len(other[2])), moved)
        elif rows:
            rng.shuffle(rows)
    return tuple((r, tuple(map(tuple, payload)), tuple(map(tuple, room))) for r, payload, room in regions
                 if payload or rng.random() < 0.1)


class Measured(Case):
    def test_as_the_model_tells(self):
        for q, deeds in runs(50):
            strip, layout = Strip(q), empty(q)
            for deed in deeds:
                strip.do(deed)
                layout, _ = step(layout, deed)
                self.assertEqual((layout.puts, layout.regions), (strip.puts, strip.parts()))
                files = strip.files()
                self.same(places(layout), tuple((serial, at, size) for serial, (at, size, _, _) in files.items()))
                self.same([length(layout), live(layout)],
                          [len(strip.cells()), sum(size for _, size, _, _ in files.values())])
                for size in (1, 2, 3, 4, 7, 8, 200, 4096):
                    self.same(room_for(layout, size), strip.host(size))

    def test_the_layout_comes_first(self):
        for function, more in FUNCTIONS.items():
            for value in NO_OBJECTS + [Layout, ONE.regions, str(ONE)]:
                self.bad(BadLayout, "layout", function, value, *more)
                self.bad(BadLayout, "layout", function, value, *[None for _ in more])

    def test_wrong_sizes(self):
        for size in out_of(1, 4096):
            self.bad(BadNumber, "size", room_for, TWO, size)
            self.bad(BadNumber, "size", put_in, TWO, size)


class Changed(Case):
    def test_put_in_as_the_model_does(self):
        for q, deeds in runs(40):
            strip, layout = Strip(q), empty(q)
            for deed in deeds:
                for size in (1, 2, 5, 8, 4096):
                    other = Strip(q, strip.puts, strip.parts())
                    if other.do(("put", size)) is None:
                        made = put_in(layout, size)
                        self.assertEqual((made.q, made.puts, made.regions), (q, other.puts, other.parts()))
                        self.assertEqual(Layout(q, made.puts, made.regions), made)
                    else:
                        self.bad(Misfit, "room", put_in, layout, size)
                self.assertEqual((layout.puts, layout.regions), (strip.puts, strip.parts()))
                strip.do(deed)
                layout, _ = step(layout, deed)

    def test_dropped_as_the_model_does(self):
        for q, deeds in runs(40):
            strip, layout = Strip(q), empty(q)
            for deed in deeds:
                strip.do(deed)
                layout, _ = step(layout, deed)
                for serial in range(-1, strip.puts + 1):
                    other = Strip(q, strip.puts, strip.parts())
                    if serial not in strip.files():
                        self.bad(BadNumber, "serial", dropped, layout, serial)
                    elif other.do(("drop", serial)) is None:
                        made = dropped(layout, serial)
                        self.assertEqual((made.q, made.puts, made.regions), (q, other.puts, other.parts()))
                        self.assertEqual(Layout(q, made.puts, made.regions), made)
                    else:
                        self.bad(Misfit, "room", dropped, layout, serial)

    def test_wrong_serials(self):
        for serial in NO_INTEGERS + [-1, 3, HUGE, -HUGE]:
            self.bad(BadNumber, "serial", dropped, TWO, serial)
        gone = dropped(TWO, 1)
        self.bad(BadNumber, "serial", dropped, gone, 1)
        hole = dropped(WIDE, 2)
        self.bad(BadNumber, "serial", dropped, hole, 2)
        self.bad(BadNumber, "serial", dropped, empty(2), 0)

    def test_the_layout_that_is_passed_stays(self):
        before = [repr(vars(each)) for each in (ONE, TWO, WIDE)]
        put_in(ONE, 2)
        dropped(TWO, 2)
        dropped(WIDE, 1)
        self.assertEqual([repr(vars(each)) for each in (ONE, TWO, WIDE)], before)

    def test_rooms_are_tried_one_behind_another(self):
        layout = Layout(2, 4, [(1, [("file", 0, 2)], []), (3, [("file", 1, 8)], []), (4, [("file", 2, 16)], [])])
        self.same([room_for(layout, size) for size in (1, 2, 4, 5, 8, 9)], [1, 3, 3, 4, 4, None])
        layout = put_in(layout, 1)
        self.same([region[2] for region in layout.regions], [(("file", 4, 1),), (), ()])
        self.same([region[2] for region in put_in(layout, 1).regions], [(("file", 4, 1),), (("file", 5, 1),), ()])


class Texts(Case):
    def test_texts_are_read_again(self):
        for q, deeds in runs(60, 4096):
            layout = empty(q)
            for deed in deeds:
                layout, _ = step(layout, deed)
                told = read_layout(str(layout))
                self.assertEqual(told, layout)
                self.same(told.regions, layout.regions)

    def test_what_is_no_string(self):
        for value in NO_OBJECTS:
            if not isinstance(value, str):
                self.fails(BadText, {"item": 0}, read_layout, value)
        self.fails(BadText, {"item": 0}, read_layout, ONE)
        self.fails(BadText, {"item": 0}, read_layout, b"q 2 puts 0")

    def test_the_first_item_that_cannot_stand(self):
        table = [
            ("", 0), (" ", 0), ("Q 2 puts 0", 0), (" q 2 puts 0", 0), ("q", 1), ("q ", 1), ("q  2 puts 0", 1),
            ("q x puts 0", 1), ("q 1 puts 0", 1), ("q 65 puts 0", 1), ("q -2 puts 0", 1), ("q +2 puts 0", 1),
            ("q 02 puts 0", 1), ("q 2.0 puts 0", 1), ("q 2_0 puts 0", 1), ("q 2", 2), ("q 2 ", 2), ("q 2 put 0", 2),
            ("q 2 puts", 3), ("q 2 puts ", 3), ("q 2 puts -0", 3), ("q 2 puts -1", 3), ("q 2 puts 00", 3),
            ("q 2 puts 01", 3), ("q 2 puts x", 3), ("q 2 puts 0 ", 4), ("q 2 puts 0\n", 3), ("q 2 puts 0 0", 4),
            ("q 2 puts " + "9" * 61, 3), ("q 2 puts 1" + "0" * 60, 3), ("q\t2 puts 0", 0), ("q 2 puts 0 file", 4),
            ("q 2 puts \u0661", 3), ("q \u00b2 puts 0", 1), ("q 2 puts 1 /", 5), ("q 2 puts 1 / ", 5),
            ("q 2 puts 1 / 13", 5), ("q 2 puts 1 / -1", 5), ("q 2 puts 1 / 2", 6), ("q 2 puts 1 / 2 ", 6),
            ("q 2 puts 1 / 2 gone 0 4", 6), ("q 2 puts 1 / 2 shade 0 4", 6), ("q 2 puts 1 / 2 /", 6),
            ("q 2 puts 1 / 2 file", 7), ("q 2 puts 1 / 2 file 1", 7), ("q 2 puts 1 / 2 file -1", 7),
            ("q 2 puts 1 / 2 file 00", 7), ("q 2 puts 0 / 2 file 0", 7), ("q 2 puts 1 / 2 file 0", 8),
            ("q 2 puts 1 / 2 file 0 0", 8), ("q 2 puts 1 / 2 file 0 4097", 8), ("q 2 puts 1 / 2 file 0 04", 8),
            ("q 2 puts 1 / 2 file 0 4", 9), ("q 2 puts 1 / 2 file 0 4 ", 9), ("q 2 puts 1 / 2 file 0 4 /", 9),
            ("q 2 puts 1 / 2 file 0 4 gone", 9), ("q 2 puts 1 / 2 file 0 4 room ", 10),
            ("q 2 puts 1 / 2 file 0 4 room room", 10), ("q 2 puts 1 / 2 file 0 4 room hole 0 1", 10),
            ("q 2 puts 1 / 2 file 0 4 room gone", 11), ("q 2 puts 1 / 2 file 0 4 room gone 1", 11),
            ("q 2 puts 2 / 2 file 0 4 room gone 1", 12), ("q 2 puts 2 / 2 file 0 4 room gone 1 0", 12),
            ("q 2 puts 2 / 2 file 0 4 room gone 1 1 ", 13), ("q 2 puts 2 / 2 file 0 4 room gone 1 1 /", 14),
            ("q 2 puts 2 / 2 file 0 4 room gone 1 1 / 2", 14), ("q 2 puts 2 / 2 file 0 4 room gone 1 1 / 1", 14),
            ("q 2 puts 2 / 2 file 0 4 room gone 1 1 / 3", 15), ("q 2 puts 1 / 2 file 0 4  room", 9),
            ("q 2 puts 1 / 12 file 0 4096 room / 13", 11), ("q 2 puts 1 / 12 file 0 4096 room / 12", 11)]
        for text, item in table:
            self.fails(BadText, {"item": item}, read_layout, text)

    def test_what_only_the_whole_shows(self):
        table = [
            # A payload with nothing in it, wrong ranks, serials that do not ascend or stand twice.
            "q 2 puts 1 / 2 room", "q 2 puts 1 / 2 file 0 8 room", "q 2 puts 2 / 2 file 1 4 file 0 4 room",
            "q 2 puts 2 / 2 file 0 4 file 0 4 room", "q 2 puts 2 / 2 file 0 4 room file 0 1",
            # Too much in a room, holes and shades that do not match, what has not passed over.
            "q 2 puts 2 / 2 file 0 4 room file 1 3", "q 2 puts 1 / 2 hole 0 4 room",
            "q 2 puts 2 / 2 file 0 4 room shade 1 1", "q 2 puts 2 / 2 file 1 4 room file 0 4",
            "q 2 puts 3 / 0 file 0 1 file 1 1 room / 2 file 2 4 room gone 0 1", "q 2 puts 1 / 2 room / 3 room",
            "q 2 puts 1 / 2 room file 0 1"]
        for text in table:
            self.fails(BadText, {"item": len(text.split(" ")) - 1}, read_layout, text)

    def test_each_missing_rest_of_a_text(self):
        text = str(dropped(WIDE, 2))
        items = text.split(" ")
        # Where a room has begun nothing is missing; then the whole shows what is wrong.
        for many in range(1, len(items)):
            part = " ".join(items[:many])
            if many == 4:
                self.assertEqual(read_layout(part), Layout(2, 4, ()))
            elif many == 16:
                self.fails(BadText, {"item": 15}, read_layout, part)
            elif many == 19:
                self.assertEqual(read_layout(part).regions, dropped(WIDE, 2).regions[:1])
            else:
                self.fails(BadText, {"item": many}, read_layout, part)
        self.assertEqual(read_layout(text), dropped(WIDE, 2))

    def test_the_greatest_numbers(self):
        text = "q 64 puts " + "9" * 60
        self.same([read_layout(text).puts, str(read_layout(text))], [10 ** 60 - 1, text])
        text = "q 64 puts 1" + "0" * 59 + " / 12 file " + "9" * 59 + " 4096 room"
        self.same(str(read_layout(text)), text)

    def test_long_texts(self):
        text = "q 2 puts 3000 / 0 " + " ".join(f"file {number} 1" for number in range(1500)) + " room"
        self.assertEqual(str(read_layout(text)), text)
        # Each item can stand but the last one.
        text = "q 2 puts 9 / 1 " + "file 0 2 " * 2200 + "room x"
        self.fails(BadText, {"item": 6607}, read_layout, text)


if __name__ == "__main__":
    unittest.main()
