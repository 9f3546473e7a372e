import unittest
from collections import OrderedDict, namedtuple

from priceblind import checks
from priceblind.checks import are_integers, is_integer, is_lot, is_name, is_within

Pair = namedtuple("Pair", "a b")

INTEGERS = [0, 1, -1, 7, 255, 2 ** 31, 2 ** 63 - 1, 2 ** 63, -2 ** 63 - 1, 10 ** 60, -10 ** 60, 10 ** 5000]
NO_INTEGERS = [
    True, False, None, 0.0, 1.0, 1.5, float("inf"), float("nan"), 1j, "", "0", "1", "-1", "a", b"", b"1",
    [], [1], (), (1,), [[1]], ((1,),), {}, {0: 1}, {1}, frozenset([1]), range(3), int, len, object(),
    iter([1]), NotImplemented, Ellipsis,
]
NO_ROWS = [
    None, True, False, 0, 3, -1, 1.5, "", "12", "ab", b"", b"\x00\x01", {}, {0: 1, 1: 2}, OrderedDict(),
    set(), {0, 1}, frozenset(), range(2), iter([0, 1]), (number for number in (0, 1)), [].append, list, tuple,
    {0: 1}.keys(), object(),
]


class Asked(unittest.TestCase):
    def answers(self, answer, wanted, what):
        # Python writes no integer of thousands of digits, so such a one is told by its length.
        long = is_integer(what) and what.bit_length() > 1000
        self.assertIs(answer, wanted, what.bit_length() if long else repr(what)[:80])


class Example(unittest.TestCase):
    def test_example_of_the_interface(self):
        self.assertEqual(
            [is_integer(True), is_within(3, None, 3), are_integers([1, True]), is_lot([0, 2], 3),
             is_lot((2, 0), 3), is_name("ab"), is_name("a1")],
            [False, True, False, True, False, True, False])

    def test_all_are_defined_here(self):
        for name in ("is_integer", "is_within", "are_integers", "is_lot", "is_name"):
            self.assertEqual(getattr(checks, name).__module__, "priceblind.checks")

    def test_by_name(self):
        self.assertIs(is_integer(value=3), True)
        self.assertIs(is_within(value=3, least=4, most=5), False)
        self.assertIs(is_within(most=5, least=None, value=3), True)
        self.assertIs(are_integers(value=(1, 2)), True)
        self.assertIs(is_lot(many=3, value=[1, 2]), True)
        self.assertIs(is_lot([1, 2], many=2), False)
        self.assertIs(is_name(value="z"), True)


class IsInteger(Asked):
    def test_integers(self):
        for value in INTEGERS:
            self.answers(is_integer(value), True, value)

    def test_other_values(self):
        for value in NO_INTEGERS:
            self.answers(is_integer(value), False, value)


class IsWithin(Asked):
    def test_bounds_are_within(self):
        for least, most in ((0, 0), (2, 64), (-3, 3), (1, 4096), (-10 ** 60, 10 ** 60), (5, 6)):
            for value, wanted in ((least - 1, False), (least, True), (most, True), (most + 1, False)):
                with self.subTest(least=least, most=most, value=value):
                    self.answers(is_within(value, least, most), wanted, value)
                    self.answers(is_within(value, least, None), value >= least, value)
                    self.answers(is_within(value, None, most), value <= most, value)
                    self.answers(is_within(value, None, None), True, value)

    def test_bounds_of_zero_are_bounds(self):
        self.assertIs(is_within(-1, 0, None), False)
        self.assertIs(is_within(1, None, 0), False)
        self.assertIs(is_within(0, 0, 0), True)

    def test_nothing_is_within_crossed_bounds(self):
        for value in (1, 2, 3, 4):
            self.assertIs(is_within(value, 3, 2), False)

    def test_far_out(self):
        self.assertIs(is_within(10 ** 5000, 1, 4096), False)
        self.assertIs(is_within(-10 ** 5000, 1, 4096), False)
        self.assertIs(is_within(10 ** 5000, 1, None), True)
        self.assertIs(is_within(-10 ** 5000, None, 1), True)

    def test_other_values(self):
        for value in NO_INTEGERS:
            for least, most in ((None, None), (0, None), (None, 10), (0, 1), (-10, 10)):
                self.answers(is_within(value, least, most), False, value)


class AreIntegers(Asked):
    def test_lists_and_tuples(self):
        for items in ([], [0], [3, 3, 1], INTEGERS, [-1, 10 ** 60], list(range(500))):
            self.answers(are_integers(list(items)), True, len(items))
            self.answers(are_integers(tuple(items)), True, len(items))
        self.assertIs(are_integers(Pair(1, 2)), True)

    def test_one_wrong_item(self):
        for value in NO_INTEGERS:
            for items in ([value], [value, 1], [1, value], [1, value, 2]):
                self.answers(are_integers(items), False, value)
                self.answers(are_integers(tuple(items)), False, value)

    def test_no_rows(self):
        for value in NO_ROWS:
            self.answers(are_integers(value), False, value)


class IsLot(Asked):
    def test_lots(self):
        for items, many in (([], 0), ([], 5), ([0], 1), ([4], 5), ([0, 1, 2], 3), ([1, 3], 4),
                            ([0, 10 ** 60 - 1], 10 ** 60), (list(range(400)), 400)):
            with self.subTest(items=items[:5], many=many):
                self.answers(is_lot(items, many), True, items)
                self.answers(is_lot(tuple(items), many), True, items)

    def test_no_lots(self):
        for items, many in (([0], 0), ([5], 5), ([6], 5), ([-1], 5), ([-2, -1], 5), ([-1, 0], 5), ([0, 0], 5),
                            ([2, 1], 5), ([0, 2, 1], 5), ([0, 1, 1], 5), ([0, 1, 5], 5), ([0, 9, 1], 5),
                            ([-10 ** 60], 5), ([10 ** 60], 5), ([10 ** 60], 10 ** 60), ([0, 1, 2, 0], 5)):
            with self.subTest(items=items, many=many):
                self.answers(is_lot(items, many), False, items)
                self.answers(is_lot(tuple(items), many), False, items)

    def test_one_wrong_item(self):
        for value in NO_INTEGERS:
            for items in ([value], [value, 5], [0, value], [0, value, 5]):
                self.answers(is_lot(items, 9), False, value)
                self.answers(is_lot(tuple(items), 9), False, value)

    def test_true_and_false_are_no_numbers(self):
        for items in ([False], [True], [False, True], [0, True], [False, 1]):
            self.answers(is_lot(items, 2), False, items)

    def test_no_rows(self):
        for value in NO_ROWS:
            for many in (0, 2, 10):
                self.answers(is_lot(value, many), False, value)

    def test_nothing_is_changed(self):
        items = [2, 0, 1]
        self.assertIs(is_lot(items, 3), False)
        self.assertEqual(items, [2, 0, 1])


class IsName(Asked):
    def test_names(self):
        for value in ("a", "z", "ab", "zz", "abcdefghijkl", "mnopqrstuvwx", "yz", "a" * 12, "z" * 12):
            self.answers(is_name(value), True, value)

    def test_lengths(self):
        for many in range(30):
            self.answers(is_name("q" * many), 1 <= many <= 12, many)
        self.answers(is_name("q" * 20000), False, "long")

    def test_each_other_sign(self):
        for number in list(range(0x250)) + [0x3b1, 0x430, 0x660, 0xfb01, 0xff41, 0x1d41a]:
            sign = chr(number)
            wanted = sign in "abcdefghijklmnopqrstuvwxyz"
            for value in (sign, "a" + sign, sign + "b", "a" + sign + "b"):
                self.answers(is_name(value), wanted, value)

    def test_other_values(self):
        for value in NO_INTEGERS + NO_ROWS + INTEGERS:
            if value not in ("a", "ab"):
                self.answers(is_name(value), False, value)
        for value in (["a"], ("a", "b"), b"ab", bytearray(b"ab"), {"a": "b"}, {"a"}, [["ab"]]):
            self.answers(is_name(value), False, value)


if __name__ == "__main__":
    unittest.main()
