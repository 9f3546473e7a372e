import copy
import unittest
from collections import namedtuple

from priceblind import papers
from priceblind.papers import Denial, Paper, fixed

Pair = namedtuple("Pair", "a b")


class Note(Paper):
    def __init__(self, one, other):
        super().__init__("note", one, other)


class Letter(Paper):
    pass


class Refusal(Denial):
    pass


class Protest(Denial):
    pass


CLASSES = (Paper, Denial, Letter, Refusal, Protest)
OTHER_VALUES = [
    None, True, False, 0, 1, -1, 10 ** 60, 1.5, "", "note", b"note", [], ["note"], (), ("note", ()),
    ("note", (1,)), {}, {"word": "note", "parts": (1,)}, {1}, object(), Paper, Denial, fixed,
]


def deep(many, inmost, make):
    value = inmost
    for _ in range(many):
        value = make([value])
    return value


class Example(unittest.TestCase):
    def test_example_of_the_interface(self):
        note = Paper("note", [1, (2, [3])])
        self.assertEqual(
            [note.parts, bool(note), bool(Denial("no")), note == Denial("note", [1, (2, [3])]),
             fixed([[], {"a": [1]}])],
            [((1, (2, (3,))),), True, False, False, ((), {"a": [1]})])

    def test_all_are_defined_here(self):
        for name in ("fixed", "Paper", "Denial"):
            self.assertEqual(getattr(papers, name).__module__, "priceblind.papers")
        self.assertEqual(Denial.__bases__, (Paper,))
        self.assertEqual(Paper.__bases__, (object,))
        for cls in (Paper, Denial):
            self.assertIn("__init__", vars(cls))
            self.assertIn("__eq__", vars(cls))


class Fixed(unittest.TestCase):
    def same(self, value, wanted):
        # repr tells lists from tuples, and True from 1, all the way in.
        self.assertEqual(repr(fixed(value)), repr(wanted))

    def test_lists_become_tuples_all_the_way_in(self):
        self.same([], ())
        self.same((), ())
        self.same([1, 2], (1, 2))
        self.same([[1], [[2], []]], ((1,), ((2,), ())))
        self.same((1, [2, (3, [4])]), (1, (2, (3, (4,)))))
        self.same(([],), ((),))
        self.same([None, True, "ab", b"ab", 10 ** 60], (None, True, "ab", b"ab", 10 ** 60))
        self.same([(["a", 1], ("b", [2]))], ((("a", 1), ("b", (2,))),))

    def test_deep(self):
        for many in (1, 30, 100):
            self.assertEqual(fixed(deep(many, 7, list)), deep(many, 7, tuple))
            self.assertEqual(fixed(deep(many, [7], tuple)), deep(many, (7,), tuple))

    def test_wide(self):
        self.assertEqual(fixed([[number] for number in range(10000)]),
                         tuple([(number,) for number in range(10000)]))

    def test_other_values_stay(self):
        for value in OTHER_VALUES:
            if not isinstance(value, (list, tuple)):
                self.assertIs(fixed(value), value)
                self.assertIs(fixed([value])[0], value)
                self.assertIs(fixed((1, [value]))[1][0], value)

    def test_not_through_other_values(self):
        table, lot, note = {"a": [1, [2]], "b": {"c": []}}, {(1, 2)}, Paper("note", [1])
        made = fixed([table, [lot], (note, range(2))])
        self.assertIs(made[0], table)
        self.assertEqual(table, {"a": [1, [2]], "b": {"c": []}})
        self.assertIs(made[1][0], lot)
        self.assertIs(made[2][0], note)
        self.assertEqual(made[2][1], range(2))

    def test_nothing_is_changed(self):
        value = [1, [2, ([3], {"a": [4]})], ("b", [5])]
        before = copy.deepcopy(value)
        inner = value[1]
        made = fixed(value)
        self.assertEqual(repr(value), repr(before))
        self.assertIs(value[1], inner)
        value.append(6)
        inner.append(7)
        value[1][1][0].append(8)
        self.assertEqual(repr(made), repr((1, (2, ((3,), {"a": [4]})), ("b", (5,)))))

    def test_tuples_below_a_class_are_plain_tuples(self):
        made = fixed([Pair(1, [2])])
        self.assertEqual(made, ((1, (2,)),))

    def test_by_name(self):
        self.assertEqual(fixed(value=[1]), (1,))


class Papers(unittest.TestCase):
    def test_word_and_parts(self):
        for cls in CLASSES:
            paper = cls("note", [1, (2, [3])], "b", None, {"k": [1]})
            self.assertEqual(paper.word, "note")
            self.assertEqual(repr(paper.parts), repr(((1, (2, (3,))), "b", None, {"k": [1]})))
            self.assertEqual(repr(cls("no").parts), "()")
            self.assertEqual(repr(cls("no", ()).parts), "((),)")
            self.assertEqual(cls(word="by name").word, "by name")

    def test_attributes_are_set_on_each_object(self):
        for cls in CLASSES:
            one, other = cls("one", 1), cls("other", 2)
            self.assertEqual(vars(one), {"word": "one", "parts": (1,)})
            self.assertEqual(vars(other), {"word": "other", "parts": (2,)})
            for name in ("word", "parts"):
                self.assertFalse(hasattr(cls, name))

    def test_any_values_are_parts(self):
        for cls in CLASSES:
            for value in OTHER_VALUES:
                paper = cls("note", value, [value])
                self.assertEqual(paper.parts, (fixed(value), (fixed(value),)))

    def test_parts_stay_whatever_becomes_of_the_lists(self):
        for cls in CLASSES:
            inner = [3]
            rows = [1, (2, inner)]
            paper = cls("note", rows, inner)
            alike = cls("note", [1, (2, [3])], [3])
            rows.append(4)
            inner[0] = 5
            rows[0] = 6
            self.assertEqual(paper.parts, ((1, (2, (3,))), (3,)))
            self.assertTrue(paper == alike)

    def test_truth(self):
        for word in ("note", "", "denial"):
            for parts in ((), (0,), (False, None), ([], "")):
                for cls in CLASSES:
                    wanted = not issubclass(cls, Denial)
                    self.assertIs(bool(cls(word, *parts)), wanted)
                    self.assertIs(not cls(word, *parts), not wanted)

    def test_denials_are_papers(self):
        self.assertIsInstance(Denial("no"), Paper)
        self.assertNotIsInstance(Paper("no"), Denial)


class Equality(unittest.TestCase):
    def equal(self, one, other):
        self.assertIs(one == other, True)
        self.assertIs(other == one, True)
        self.assertIs(one != other, False)

    def unlike(self, one, other):
        self.assertIs(one == other, False)
        self.assertIs(other == one, False)
        self.assertIs(one != other, True)

    def test_alike(self):
        for cls in CLASSES:
            for parts in ((), (1,), ([1, [2]], "a"), (None,), ({"a": [1]},), (10 ** 60,)):
                self.equal(cls("note", *parts), cls("note", *parts))
            paper = cls("note", 1)
            self.equal(paper, paper)
            self.equal(cls("note", [1, (2,)]), cls("note", (1, [2])))
        self.equal(Note(1, [2]), Note(1, (2,)))

    def test_as_python_compares_parts(self):
        for cls in CLASSES:
            self.equal(cls("note", 1, 0), cls("note", True, False))
            self.equal(cls("note", Paper("in", [1])), cls("note", Paper("in", (1,))))
            self.unlike(cls("note", Paper("in", 1)), cls("note", Denial("in", 1)))
            self.unlike(cls("note", {"a": [1]}), cls("note", {"a": (1,)}))

    def test_unlike_words(self):
        for cls in CLASSES:
            for word in ("", "Note", "notes", "not", "note "):
                self.unlike(cls("note", 1), cls(word, 1))

    def test_unlike_parts(self):
        for cls in CLASSES:
            for parts in ((), (2,), (1, 1), ("1",), ([1],), ([[1]],), (None,), (-1,)):
                self.unlike(cls("note", 1), cls("note", *parts))
            self.unlike(cls("note", 1, 2), cls("note", 2, 1))
            self.unlike(cls("note", [1, 2]), cls("note", 1, 2))

    def test_unlike_classes(self):
        for one in CLASSES:
            for other in CLASSES:
                if one is not other:
                    self.unlike(one("note", 1, 2), other("note", 1, 2))
        self.unlike(Note(1, 2), Paper("note", 1, 2))
        self.unlike(Note(1, 2), Denial("note", 1, 2))

    def test_unlike_classes_of_one_name(self):
        made = []
        for base in (Paper, Denial):
            class Same(base):
                pass
            made.append(Same("note", 1))
        self.unlike(*made)

    def test_other_values(self):
        for cls in CLASSES:
            for value in OTHER_VALUES:
                self.unlike(cls("note", 1), value)
                self.unlike(cls("note"), value)

    def test_a_value_that_looks_alike(self):
        class Looks:
            word, parts = "note", (1,)
        self.unlike(Paper("note", 1), Looks())
        self.assertNotIn(Paper("note", 1), [Looks(), Denial("note", 1), ("note", (1,))])
        self.assertIn(Paper("note", 1), [Looks(), Paper("note", 1)])

    def test_comparing_changes_nothing(self):
        one, other = Paper("note", [1]), Denial("note", [1])
        for _ in range(3):
            self.unlike(one, other)
        self.assertEqual(vars(one), {"word": "note", "parts": ((1,),)})
        self.assertEqual(vars(other), {"word": "note", "parts": ((1,),)})


if __name__ == "__main__":
    unittest.main()
