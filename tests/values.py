"""Values of many kinds, most of them wrong, and a way to see just which error is raised."""
import unittest

HUGE = 10 ** 59

# True and False are no integers here, whatever Python says.
NO_INTEGERS = [
    None, True, False, 1.0, 0.5, float("nan"), 1j, "", "1", "a", "put", b"1", [], [1], [[1]], (), (1,), (1, 2, 3),
    ((),), {}, {1: 1}, {"put": 1}, {1}, range(3), object(), int, len, ValueError("q"),
]


def out_of(least, most):
    """What is no integer from least to most, None being no bound."""
    below = [] if least is None else [least - 1, least - 2, -HUGE]
    above = [] if most is None else [most + 1, most + 2, 2 ** 63, 2 ** 64, HUGE]
    return NO_INTEGERS + below + [each for each in above if most is None or each > most]


NO_NAMES = [value for value in NO_INTEGERS if value not in ("a", "put")] + [
    0, 1, "A", "aB", "a b", " a", "a1", "a-b", "a\n", "\u00e9", "abcdefghijklm", "z" * 13, ["a"], ("a",), b"a"]

# For what is told as a value of a class: none of these is one.
NO_OBJECTS = NO_INTEGERS + [0, 1, -1, HUGE, "q 2 puts 0"]


class Case(unittest.TestCase):
    def fails(self, error, fields, call, *parts, **named):
        """The call raises just this error, with these fields."""
        with self.assertRaises(error) as caught:
            call(*parts, **named)
        self.assertIs(type(caught.exception), error)
        told = vars(caught.exception)
        self.assertEqual(list(told), list(fields))
        for name, value in fields.items():
            self.assertEqual(repr(told[name]), repr(value))

    def bad(self, error, part, call, *parts, **named):
        self.fails(error, {"part": part}, call, *parts, **named)

    def same(self, value, wanted):
        """Equal, lists told from tuples and True from 1 all the way in."""
        self.assertEqual(repr(value), repr(wanted))
