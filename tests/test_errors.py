import inspect
import unittest

from priceblind import errors
from priceblind.errors import (
    BadContents, BadDeeds, BadDisk, BadLayout, BadName, BadNumber, BadPrices, BadStore, BadText,
    Impossible, Misfit, Missing, NoFile, NoView, Out, StripError, TooMany, Twice)
from priceblind.papers import Denial, Paper

FIELDS = {
    BadNumber: ("part",), BadName: ("part",), BadContents: ("part",), BadDisk: ("part",),
    BadLayout: ("part",), BadDeeds: ("part",), BadPrices: ("part",), BadStore: ("part",),
    Misfit: ("part",), Missing: ("value",), NoFile: ("value",), NoView: ("value",),
    Twice: ("value",), TooMany: ("what", "most"), Impossible: ("paper",), BadText: ("item",),
    Out: (), StripError: (),
}
BELOW_MISSING = (NoFile, NoView)


class Broken:
    """A value of which nothing can be asked."""

    def __eq__(self, other):
        raise RuntimeError("==")

    def __repr__(self):
        raise RuntimeError("repr")

    def __bool__(self):
        raise RuntimeError("bool")

    __str__ = __len__ = __iter__ = __hash__ = __repr__


VALUES = [
    "q", "", 0, -1, 10 ** 80, -10 ** 5000, True, False, None, 1.5, b"ab", [], [1, [2, [True]]], (1, [2]),
    {}, {"a": [1]}, {1, 2}, object(), int, len, Denial("no", [1]), Paper("yes"), ValueError("x"),
    Broken(), [Broken()], "x" * 20000, "{} %s \n \\",
]


def caught_by(wanted, made):
    try:
        raise made
    except wanted as error:
        return error


class Fields(unittest.TestCase):
    def combinations(self, count):
        for at, value in enumerate(VALUES):
            yield tuple([value, VALUES[at - 1]][:count])

    def keeps(self, error, names, values):
        self.assertEqual(list(vars(error)), list(names))
        for name, value in zip(names, values):
            self.assertIs(getattr(error, name), value)

    def test_made_by_place_and_by_name(self):
        for cls, names in FIELDS.items():
            for values in self.combinations(len(names)):
                with self.subTest(cls=cls.__name__, at=[id(value) for value in values]):
                    self.keeps(cls(*values), names, values)
                    self.keeps(cls(**dict(zip(names, values))), names, values)
                    self.assertIs(cls(*values).__class__, cls)

    def test_names_in_any_order_and_mixed(self):
        self.keeps(TooMany(most=200, what="files"), ("what", "most"), ("files", 200))
        self.keeps(TooMany("files", most=200), ("what", "most"), ("files", 200))

    def test_all_fields_are_asked_for_and_no_more(self):
        for cls, names in FIELDS.items():
            if names:
                with self.subTest(cls=cls.__name__):
                    self.assertRaises(TypeError, cls)
                    self.assertRaises(TypeError, cls, *range(len(names) + 1))
                    self.assertRaises(TypeError, lambda: cls(**{name + "s": 0 for name in names}))

    def test_values_stay_as_they_were_passed(self):
        lists = [[1], [2]]
        error = Missing(lists)
        lists.append(3)
        self.assertIs(error.value, lists)
        self.assertEqual(error.value, [[1], [2], 3])

    def test_two_errors_keep_their_own_fields(self):
        one, other = BadNumber("q"), BadNumber("size")
        self.assertEqual((one.part, other.part), ("q", "size"))


class Family(unittest.TestCase):
    def test_all_classes_are_defined_in_errors(self):
        defined = {value for value in vars(errors).values() if inspect.isclass(value)}
        self.assertEqual(defined, set(FIELDS))
        self.assertEqual({cls.__module__ for cls in FIELDS}, {"priceblind.errors"})

    def test_bases(self):
        self.assertEqual(StripError.__bases__, (ValueError,))
        for cls in FIELDS:
            if cls is not StripError:
                base = Missing if cls in BELOW_MISSING else StripError
                self.assertEqual(cls.__bases__, (base,), cls.__name__)

    def test_below_no_other_class(self):
        for cls in FIELDS:
            mine = {cls, StripError} | ({Missing} if cls in BELOW_MISSING else set())
            self.assertEqual(set(cls.__mro__), mine | set(ValueError.__mro__), cls.__name__)

    def test_caught_by_class_and_by_base_with_fields(self):
        for cls, names in FIELDS.items():
            values = [["v", 7], {"k": 1}][:len(names)]
            bases = [cls, StripError, ValueError, Exception]
            for base in bases + ([Missing] if cls in BELOW_MISSING else []):
                with self.subTest(cls=cls.__name__, base=base.__name__):
                    error = caught_by(base, cls(*values))
                    self.assertIs(error.__class__, cls)
                    self.assertEqual([getattr(error, name) for name in names], values)

    def test_not_caught_by_another_class(self):
        for cls, names in FIELDS.items():
            values = ["v", 7][:len(names)]
            for other in FIELDS:
                fits = issubclass(cls, other)
                wanted = other in (cls, StripError) or (other is Missing and cls in BELOW_MISSING)
                self.assertEqual(fits, wanted, (cls.__name__, other.__name__))
            for other in (TypeError, KeyError, IndexError, LookupError, UnicodeError, OSError,
                          ArithmeticError, RuntimeError, AttributeError, StopIteration):
                self.assertNotIsInstance(cls(*values), other)


if __name__ == "__main__":
    unittest.main()
