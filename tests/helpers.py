"""What the tests share: schemas, values of all sorts, and a test case that tells errors apart."""
import unittest

from whichwalks.base.schemas import Schema
from whichwalks.errors import InvalidNumber, Missing, NothingToUndo, ParseError, TooMany, UnknownName

ONE = Schema(("n",), {"a": (("n",), ("n",), True), "b": (("n",), ("n",), False)})
ROADS = Schema(
    ("city", "person"),
    {
        "knows": (("person",), ("person",), False),
        "lives": (("person",), ("city",), False),
        "road": (("city",), ("city",), True),
    },
)
MIXED = Schema(
    ("k", "m", "s"),
    {
        "go": (("k", "m"), ("m", "s"), True),
        "in": (("s",), ("k",), False),
        "up": (("k", "s"), ("k", "m", "s"), False),
    },
)

# What an error keeps, by its class; the other ones take a message.
KEPT = {
    ParseError: "index",
    InvalidNumber: "value",
    UnknownName: "name",
    TooMany: "limit",
    NothingToUndo: "many",
    Missing: "edge",
}


def nested(depth):
    """A value that is nested so deep, by tuples, lists and dicts in turn."""
    value = "n"
    for level in range(depth):
        value = ((value,), [value], {"n": value})[level % 3]
    return value


# Values that can be passed in any place, one of each sort; all are alike to no name, number, set or word.
STRANGE = (
    None, True, False, 10 ** 60, -(10 ** 60), 10 ** 100 - 1, "", "Road", "a b", "n\n", "x" * 4000,
    [], ["n"], ["n", "a", "n"], {}, {"n": "n"}, {(1, None): [True]}, (None,), (1, 2), ((),), nested(10), (nested(9),),
    InvalidNumber(1), UnknownName("n"), ([], {}),
)


class Case(unittest.TestCase):
    """A test case that tells True from 1, and errors from those of derived classes."""

    def same(self, value, wanted):
        self.assertEqual(value, wanted)
        self.assertEqual(repr(value), repr(wanted))

    def refused(self, error, call, *arguments, kept=None):
        """The call raises just this error, which keeps just this value."""
        with self.assertRaises(error) as caught:
            call(*arguments)
        self.assertIs(caught.exception.__class__, error)
        if error in KEPT:
            self.same(getattr(caught.exception, KEPT[error]), kept)

    def first_wrong_decides(self, call, right, wrong):
        """Of one or two wrong arguments the first one decides the error, which keeps it.

        `right` are arguments without an error, `wrong` has for each of them a pair of the error and its values.
        """
        call(*right)
        for first, (error, values) in enumerate(wrong):
            for value in values:
                one = right[:first] + (value,) + right[first + 1:]
                with self.subTest(arguments=one):
                    self.refused(error, call, *one, kept=value)
                for second in range(first + 1, len(wrong)):
                    for other in wrong[second][1]:
                        two = one[:second] + (other,) + one[second + 1:]
                        with self.subTest(arguments=two):
                            self.refused(error, call, *two, kept=value)
