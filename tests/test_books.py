import copy
import random
import unittest

from priceblind import books
from priceblind.books import Book, is_record, meant, name_number, name_of
from priceblind.cuts import twin
from priceblind.disks import Disk
from priceblind.errors import BadDeeds, BadDisk, BadName, BadNumber, Misfit, Out
from values import HUGE, NO_INTEGERS, NO_NAMES, NO_OBJECTS, Case

TOP = 2 ** 63 - 1
NUMBERS = {"put": (1, 2), "drop": (2, 1), "copied": (3, 0), "view": (4, 1), "letgo": (5, 1), "start": (6, 3),
           "region": (7, 1), "thing": (8, 4), "named": (9, 2), "seen": (10, 1), "viewed": (11, 3), "whole": (12, 0)}
WHOLE = ("whole",)
ONE = [("start", 4, 0, 0)]
NO_RECORDS = NO_OBJECTS + [
    ("whole",), ["whole"], ("Put", 1, 1), ("put",), ("put", 1), ("put", 1, 2, 3), ("drop",), ("drop", 1, 1), ("copied", 0),
    ("drop", -1), ("drop", 2 ** 63), ("drop", HUGE), ("drop", True), ("drop", None), ("drop", "1"), ("drop", 1.0),
    ("drop", [1]), (["drop"], 1), (("drop",), 1), (1, 1), (True, 1), (None,), ("",), "copied", b"copied", {"drop": 1},
    {"copied"}, ("start", 2, 0), ("thing", 0, 0, 0), ("thing", 0, 0, 0, 1, 0), ("viewed", 1, 2), (("copied",),),
    [["drop", 1]], ("drop", (1,)), ("view", False), ("copied", None)]


def row(mark, record):
    """The six cells of a row."""
    number, many = NUMBERS[record[0]]
    assert len(record) == 1 + many
    return [mark, number] + list(record[1:]) + [0] * (4 - many)


def decoded(disk, track, odd):
    """The book on a track, straight from the document: (generation, rows), None if there is none."""
    cells = dict(disk.kept(track))
    mark = cells.get(0, 0)
    if mark == 0 or mark % 2 != odd:
        return None
    rows = []
    while True:
        six = [cells.get(6 * len(rows) + k, 0) for k in range(6)]
        fits = [word for word, (number, many) in NUMBERS.items()
                if six[0] == mark and six[1] == number and not any(six[2 + many:])]
        if not fits:
            return mark, rows
        rows.append((fits[0],) + tuple(six[2:2 + NUMBERS[fits[0]][1]]))


def counting(disk):
    found = [book for book in (decoded(disk, 1, 0), decoded(disk, 2, 1)) if book and WHOLE in book[1]]
    return max(found, default=(0, []), key=lambda book: book[0])


def lay(disk, track, rows, at=0):
    """Writes rows (mark, record) or lists of cells to a track, for certain."""
    for number, each in enumerate(rows):
        disk.write(track, 6 * (at + number), row(*each) if isinstance(each, tuple) else each)
    disk.flush()


def told(disk):
    book = Book(disk)
    return [book.generation, book.added, book.records()]


class Example(Case):
    def test_example_of_the_interface(self):
        self.same([name_number("b"), name_number("ab"), name_of(29), is_record(["put", 29, 3]), is_record(("whole",)),
                   is_record(("drop",))], [2, 29, "ab", True, False, False])
        disk = Disk()
        book = Book(disk)
        self.same([book.generation, book.added, book.records(), book.turn([("start", 4, 0, 0)]),
                   book.add(["put", 29, 3])], [0, 0, (), None, None])
        self.same([book.generation, book.added, book.records()], [1, 1, (("start", 4, 0, 0), ("put", 29, 3))])
        self.same(disk.kept(2), ((0, 1), (1, 6), (2, 4), (6, 1), (7, 12), (12, 1), (13, 1), (14, 29), (15, 3)))
        again = Book(disk)
        self.same([again.turn([("start", 4, 1, 0)]), again.generation, again.added, meant(disk), disk.kept(1)],
                  [None, 2, 0, (("start", 4, 1, 0),), ((0, 2), (1, 6), (2, 4), (3, 1), (6, 2), (7, 12))])
        self.bad(BadDeeds, "record", again.add, ("whole",))
        self.bad(Misfit, "book", Book(Disk()).add, ("copied",))
        self.bad(BadNumber, "number", name_of, 27)

    def test_all_are_defined_here(self):
        for each in (name_number, name_of, is_record, meant, Book):
            self.assertEqual(each.__module__, books.__name__)
        for name in ("__init__", "records", "add", "turn"):
            self.assertIn(name, vars(Book))

    def test_by_name(self):
        disk = Disk()
        book = Book(disk=disk)
        book.turn(records=ONE)
        book.add(record=("copied",))
        self.same([meant(disk=disk), name_number(name="a"), name_of(number=1), is_record(value=("copied",))],
                  [(ONE[0], ("copied",)), 1, "a", True])


class Names(Case):
    def test_numbers_of_names(self):
        letters = "abcdefghijklmnopqrstuvwxyz"
        self.same([name_number(letter) for letter in letters], list(range(1, 27)))
        self.same([name_number("aa"), name_number("zz"), name_number("aaa"), name_number("z" * 12)],
                  [28, 26 * 28, 27 * 27 + 28, 27 ** 12 - 1])
        rng = random.Random(3)
        for _ in range(300):
            name = "".join(rng.choice(letters) for _ in range(rng.randint(1, 12)))
            number = sum((ord(letter) - 96) * 27 ** place for place, letter in enumerate(reversed(name)))
            self.same([name_number(name), name_of(number)], [number, name])

    def test_names_of_numbers(self):
        for number in range(1, 3000):
            digits, rest = [], number
            while rest:
                digits.append(rest % 27)
                rest //= 27
            if 0 in digits:
                self.bad(BadNumber, "number", name_of, number)
            else:
                self.same(name_number(name_of(number)), number)

    def test_what_is_no_name(self):
        for value in NO_NAMES:
            self.bad(BadName, "name", name_number, value)

    def test_what_is_no_number_of_a_name(self):
        for number in NO_INTEGERS + [0, -1, 27, 54, 27 * 27, 27 ** 11, 27 ** 12, 27 ** 12 + 1, 27 ** 13 - 1, TOP, HUGE,
                                     -HUGE, 10 ** 60 - 1, 27 ** 12 - 27, 28 * 27,
                                     # What the letters of "aaaaaaaaaaaaa", one too many, would write.
                                     (27 ** 13 - 1) // 26, (27 ** 30 - 1) // 26]:
            self.bad(BadNumber, "number", name_of, number)


class Records(Case):
    def test_all_words(self):
        for word, (_, many) in NUMBERS.items():
            for number in (0, 1, 5000, TOP):
                record = (word,) + (number,) * many
                self.same([is_record(record), is_record(list(record))], [word != "whole"] * 2)
                for wrong in NO_INTEGERS + [-1, TOP + 1, HUGE]:
                    for at in range(1, many + 1):
                        self.same(is_record(record[:at] + (wrong,) + record[at + 1:]), False)
                self.same([is_record(record + (0,)), is_record(record[:-1]), is_record(record[1:])], [False] * 3)

    def test_any_value(self):
        for value in NO_RECORDS + [word for word in NUMBERS]:
            self.same(is_record(value), False)
        self.same(is_record(["copied"]), True)


class Read(Case):
    def test_nothing_counts(self):
        disk = Disk()
        self.same([told(disk), meant(disk)], [[0, 0, ()], ()])
        self.same([disk.kept(track) for track in range(3)], [(), (), ()])

    def test_wrong_disks(self):
        for value in NO_OBJECTS + [Disk]:
            self.bad(BadDisk, "disk", meant, value)
            self.bad(BadDisk, "disk", Book, value)

    def check(self, disk):
        generation, rows = counting(disk)
        records = tuple(each for each in rows if each != WHOLE)
        added = len([each for each in rows[rows.index(WHOLE):] if each != WHOLE]) if rows else 0
        self.same(meant(disk), records)
        self.same(told(disk), [generation, added, records])
        return generation

    def test_odd_generations_lie_on_track_2_and_even_ones_on_track_1(self):
        for track in range(3):
            for mark in range(1, 7):
                disk = Disk()
                lay(disk, track, [(mark, ONE[0]), (mark, WHOLE)])
                counts = (track, mark % 2) in ((2, 1), (1, 0))
                self.same(told(disk), [mark, 0, tuple(ONE)] if counts else [0, 0, ()])

    def test_the_greater_of_two_whole_books(self):
        for even, odd in ((2, 1), (2, 3), (4, 9), (10, 1)):
            for even_whole in (True, False):
                for odd_whole in (True, False):
                    disk = Disk()
                    lay(disk, 1, [(even, ("view", 1)), (even, WHOLE if even_whole else ("copied",))])
                    lay(disk, 2, [(odd, ("view", 2)), (odd, WHOLE if odd_whole else ("copied",))])
                    wanted = [(mark, whole) for mark, whole in ((even, even_whole), (odd, odd_whole)) if whole]
                    self.same(Book(disk).generation, max(wanted)[0] if wanted else 0)
                    self.check(disk)

    def test_a_book_ends_where_a_row_is_none(self):
        good = [(5, ("start", 2, 0, 0)), (5, WHOLE), (5, ("put", 1, 1)), (5, ("drop", 0))]
        wrong = [[4, 3, 0, 0, 0, 0], [6, 3, 0, 0, 0, 0], [3, 2, 1, 0, 0, 0], [0, 2, 1, 0, 0, 0], [5, 0, 0, 0, 0, 0],
                 [5, 13, 0, 0, 0, 0], [5, TOP, 0, 0, 0, 0], [5, 3, 1, 0, 0, 0], [5, 3, 0, 0, 0, 1], [5, 2, 1, 0, 1, 0],
                 [5, 12, 0, 1, 0, 0], [5, 11, 1, 1, 1, 1], [5, 1, 1, 1, 0, 1], [5, 12, 0, 0, 0, 7]]
        for six in wrong:
            for at in range(5):
                disk = Disk()
                lay(disk, 2, good[:at] + [six] + good[at:])
                self.same(meant(disk), tuple(each for _, each in good[:at] if each != WHOLE) if at > 1 else ())
                self.check(disk)

    def test_any_numbers_stand_in_a_row(self):
        disk = Disk()
        rows = [(1, (word,) + tuple(range(TOP - many + 1, TOP + 1))) for word, (_, many) in NUMBERS.items()]
        lay(disk, 2, rows)
        self.same(meant(disk), tuple(record for _, record in rows if record != WHOLE))
        self.same(told(disk)[:2], [1, 0])

    def test_whole_stands_anywhere_and_more_than_once(self):
        disk = Disk()
        lay(disk, 2, [(7, WHOLE), (7, ("copied",)), (7, WHOLE), (7, ("view", 0)), (7, WHOLE)])
        self.same([meant(disk), told(disk)], [(("copied",), ("view", 0)), [7, 2, (("copied",), ("view", 0))]])
        Book(disk).add(("letgo", 0))
        self.same([disk.read(2, 30, 6), meant(disk)[2:], told(disk)[1]], [(7, 5, 0, 0, 0, 0), (("letgo", 0),), 3])

    def test_what_waits_is_left_out(self):
        disk = Disk()
        Book(disk).turn(ONE)
        disk.write(2, 12, row(1, ("put", 1, 1)))
        self.same([meant(disk), Book(disk).added], [tuple(ONE), 0])
        disk.write(2, 6, [9])
        self.same([meant(disk), Book(disk).added], [tuple(ONE), 0])
        disk.flush()
        self.same(meant(disk), ())

    def test_a_book_behind_its_disk(self):
        disk = Disk()
        book = Book(disk)
        Book(disk).turn(ONE)
        self.same([book.generation, book.added, book.records()], [0, 0, ()])

    def test_strange_cells_of_all_kinds(self):
        rng = random.Random(11)
        counts = 0
        words = list(NUMBERS)
        for _ in range(1500):
            disk = Disk()
            for track in (1, 2):
                marks = [rng.choice([1, 2, 3, 4])] * 6
                marks[rng.randrange(6)] = rng.choice([0, 1, 2, 3, 4])
                rows = []
                for mark in marks:
                    word = rng.choice(words + ["whole", "whole", "copied"])
                    rows.append(row(mark, (word,) + tuple(rng.randrange(3) for _ in range(NUMBERS[word][1]))))
                    if rng.random() < 0.1:
                        rows[-1][rng.randrange(6)] = rng.randrange(14)
                lay(disk, track, rows)
            counts += self.check(disk) > 0
        self.assertGreater(counts, 300)


class Added(Case):
    def test_errors_change_nothing(self):
        for disk in (Disk(), turned()):
            before = [disk.kept(track) for track in range(3)]
            book = Book(disk)
            state = [book.generation, book.added, book.records()]
            for value in NO_RECORDS:
                self.bad(BadDeeds, "record", book.add, value)
                self.bad(BadDeeds, "records", book.turn, [value])
                self.bad(BadDeeds, "records", book.turn, [("copied",), value])
            for value in NO_OBJECTS + [[], (), "copied", ("copied",), {("copied",): 1}, {("copied",)}, ONE[0]]:
                self.bad(BadDeeds, "records", book.turn, value)
            if book.generation == 0:
                self.bad(Misfit, "book", book.add, ("copied",))
                self.bad(BadDeeds, "record", book.add, None)
            self.same([disk.kept(track) for track in range(3)], before)
            self.same([book.generation, book.added, book.records()], state)

    def test_they_spend_nothing_of_a_fuse(self):
        disk = turned()
        book = Book(disk)
        disk.fuse(9)
        self.bad(BadDeeds, "record", book.add, ("copied", 1))
        self.bad(BadDeeds, "records", book.turn, [])
        # Six strokes and two flushes: a row is done.
        self.assertIsNone(book.add(("copied",)))
        self.fails(Out, {}, disk.flush)

    def test_strokes_and_flushes_in_the_told_order(self):
        told = row(1, ("put", 29, 3))
        order = [((2, 13 + k), told[1 + k]) for k in range(5)] + ["flush", ((2, 12), 1), "flush"]
        for many in range(1, 9):
            disk = turned()
            disk.fuse(many)
            self.fails(Out, {}, Book(disk).add, ("put", 29, 3))
            done = order[:many - 1]
            wait = done[done.index("flush") + 1:] if "flush" in done else done
            self.same(disk.waiting(), tuple(wait))
        disk = turned()
        disk.fuse(9)
        self.same([Book(disk).add(("put", 29, 3)), disk.waiting()], [None, ()])

    def test_turning_writes_row_by_row(self):
        records = [("start", 4, 1, 0), ("region", 0), ("thing", 0, 0, 0, 1), ("named", 0, 1)]
        order = []
        for number, record in enumerate(records + [WHOLE]):
            cells = row(2, record)
            order += [((1, 6 * number + 1 + k), cells[1 + k]) for k in range(5)]
            order += ["flush", ((1, 6 * number), 2), "flush"]
        for many in range(1, len(order) + 1):
            disk = turned()
            disk.fuse(many)
            self.fails(Out, {}, Book(disk).turn, records)
            done = order[:many - 1]
            landed = [part for at, part in enumerate(done) if part != "flush" and "flush" in done[at:]]
            self.same(disk.waiting(), tuple(part for part in done if part != "flush" and part not in landed))
            self.same(disk.kept(1), tuple(sorted((at, value) for (_, at), value in landed if value)))
        disk = turned()
        book = Book(disk)
        disk.fuse(len(order) + 1)
        self.same([book.turn(records), book.generation, book.added, book.records(), disk.waiting()],
                  [None, 2, 0, tuple(records), ()])
        self.fails(Out, {}, disk.flush)

    def test_zeros_are_written_over_what_lay_there(self):
        disk = Disk()
        book = Book(disk)
        book.turn([("thing", 1, 2, 3, 4), ("viewed", 5, 6, 7), ("start", 2, 8, 9)])
        book.turn(ONE)
        book.turn([("copied",), ("drop", 0)])
        self.same(disk.read(2, 0, 24), tuple(row(3, ("copied",)) + row(3, ("drop", 0)) + row(3, WHOLE) + row(1, WHOLE)))
        self.same(meant(disk), (("copied",), ("drop", 0)))

    def test_generations(self):
        table = [
            # The marks of row 0 on tracks 1 and 2, whether the books there are whole, and what comes next.
            (0, False, 0, False, 1), (2, True, 0, False, 3), (0, False, 1, True, 2), (2, True, 1, True, 3),
            (2, True, 3, True, 4), (2, True, 3, False, 5), (4, False, 3, True, 6), (4, False, 3, False, 5),
            (4, False, 0, False, 5), (0, False, 5, False, 6), (2, True, 9, False, 11), (8, False, 1, True, 10),
            (7, True, 4, True, 8), (7, True, 0, False, 8), (9, False, 1, True, 10), (2 ** 62, True, 0, False, 2 ** 62 + 1),
            (3, False, 1, True, 4), (4, True, 2 ** 62 - 1, False, 2 ** 62 + 1)]
        for even, even_whole, odd, odd_whole, wanted in table:
            disk = Disk()
            for track, mark, whole in ((1, even, even_whole), (2, odd, odd_whole)):
                if mark:
                    lay(disk, track, [(mark, ("view", track)), (mark, WHOLE if whole else ("copied",))])
            book = Book(disk)
            self.same([book.turn(ONE), book.generation, book.added, book.records()], [None, wanted, 0, tuple(ONE)])
            self.same([meant(disk), disk.read(1 if wanted % 2 == 0 else 2, 0, 1), told(disk)],
                      [tuple(ONE), (wanted,), [wanted, 0, tuple(ONE)]])

    def test_many_are_added_and_turned(self):
        rng = random.Random(2)
        disk = Disk()
        book = Book(disk)
        records, added, generation = [], 0, 0
        for _ in range(300):
            word = rng.choice([word for word in NUMBERS if word != "whole"])
            record = (word,) + tuple(rng.choice([0, 1, TOP]) for _ in range(NUMBERS[word][1]))
            if records and rng.random() < 0.9:
                self.assertIsNone(book.add(list(record)))
                records.append(record)
                added += 1
            else:
                records = [record] * rng.randint(1, 5)
                self.assertIsNone(book.turn([list(each) for each in records]))
                generation, added = generation + 1, 0
            self.same([book.generation, book.added, book.records()], [generation, added, tuple(records)])
            self.same([told(disk), meant(disk)], [[generation, added, tuple(records)], tuple(records)])

    def test_what_is_passed_may_change_behind_the_call(self):
        disk = Disk()
        book = Book(disk)
        records, record = [["start", 4, 0, 0]], ["put", 1, 1]
        before = copy.deepcopy([records, record])
        book.turn(records)
        book.add(record)
        self.same([records, record], before)
        records[0][1] = 9
        records.append(1)
        record[1] = 7
        self.same([book.records(), meant(disk)], [(("start", 4, 0, 0), ("put", 1, 1))] * 2)

    def test_what_was_returned_stays(self):
        disk = turned()
        book = Book(disk)
        records = book.records()
        book.add(("copied",))
        book.turn([("view", 0)])
        self.same(records, tuple(ONE))

    def test_track_0_is_left_alone(self):
        disk = Disk()
        disk.write(0, 0, [5] * 30)
        disk.flush()
        book = Book(disk)
        book.turn(ONE)
        book.add(("copied",))
        book.turn(ONE)
        self.same(disk.kept(0), tuple((at, 5) for at in range(30)))


def turned():
    """A disk with a book of generation 1 with one record."""
    disk = Disk()
    Book(disk).turn(ONE)
    return disk


def lots(rng, many):
    """All lots of so many strokes, or none, all and some."""
    if many < 6:
        return [[k for k in range(many) if number >> k & 1] for number in range(2 ** many)]
    return [[], list(range(many))] + [[k for k in range(many) if rng.random() < 0.5] for _ in range(6)]


class Cut(Case):
    def cuts_of(self, disk, call):
        """The disks behind all cuts of a call on a twin: (what it raised or None, the disk)."""
        rng = random.Random(1)
        many, raised = 1, True
        while raised:
            other = twin(disk)
            other.fuse(many)
            raised = False
            try:
                call(other)
            except Out:
                raised = True
            for lands in lots(rng, len(other.waiting())):
                behind = twin(other)
                behind.cut(lands)
                yield raised, behind
            many += 1

    def test_a_cut_of_add(self):
        disk = turned()
        Book(disk).add(("view", 0))
        old = meant(disk)
        for record in (("thing", 1, 2, 3, 4), ("copied",), ("put", 5, 6), ("drop", 0)):
            seen = set()
            for raised, behind in self.cuts_of(disk, lambda other: Book(other).add(record)):
                self.assertIn(meant(behind), (old, old + (record,)) if raised else (old + (record,),))
                seen.add(meant(behind))
                self.goes_on(behind)
            self.assertEqual(len(seen), 2)

    def test_a_cut_of_turn(self):
        first = Disk()
        second = turned()
        Book(second).add(("view", 0))
        third = twin(second)
        # On the track of the next book lies a longer, older one.
        Book(third).turn([("copied",)] * 5)
        Book(third).turn([("letgo", 0)])
        for disk in (first, second, third):
            old, new = meant(disk), (("start", 2, 0, 0), ("region", 3))
            seen = set()
            for raised, behind in self.cuts_of(disk, lambda other: Book(other).turn(new)):
                self.assertIn(meant(behind), (old, new) if raised else (new,))
                seen.add(meant(behind))
                self.goes_on(behind)
            self.assertEqual(len(seen), 2)

    def test_cuts_one_behind_another(self):
        rng = random.Random(9)
        for _ in range(150):
            disk = Disk()
            allowed = [()]
            for _ in range(12):
                book = Book(disk)
                self.assertIn(book.records(), allowed)
                records = tuple(("thing", rng.randrange(3), 0, 0, 0) for _ in range(rng.randint(1, 3)))
                disk.fuse(rng.randint(1, 40))
                try:
                    if book.generation and rng.random() < 0.5:
                        allowed = [book.records(), book.records() + (("copied",),)]
                        book.add(("copied",))
                    else:
                        allowed = [book.records(), records]
                        book.turn(records)
                    allowed = allowed[1:]
                except Out:
                    pass
                many = len(disk.waiting())
                disk.cut([k for k in range(many) if rng.random() < 0.5])
                self.assertIn(meant(disk), allowed)

    def goes_on(self, disk):
        """Behind the cut a Book adds and turns as ever."""
        book = Book(disk)
        before = book.records()
        if book.generation:
            book.add(("put", 1, 9))
            before += (("put", 1, 9),)
        self.same([meant(disk), Book(disk).records()], [before, before])
        book.turn([("view", 8), ("view", 9)])
        self.same([meant(disk), told(disk)[1:]], [(("view", 8), ("view", 9)), [0, (("view", 8), ("view", 9))]])


if __name__ == "__main__":
    unittest.main()
