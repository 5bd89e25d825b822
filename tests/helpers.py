"""What the tests share: schemas, values of all sorts, and a test case that tells errors apart."""
import unittest

from whichwalks.ask.questions import Question
from whichwalks.base.schemas import Schema
from whichwalks.errors import InvalidNumber, Missing, NothingToUndo, ParseError, TooMany, UnknownName
from whichwalks.graph.graphs import Graph

ONE = Schema(("n",), {"a": (("n",), ("n",), True), "b": (("n",), ("n",), False)})
ROADS = Schema(
    ("city", "person"),
    {
        "knows": (("person",), ("person",), False),
        "lives": (("person",), ("city",), False),
        "road": (("city",), ("city",), True),
    },
)
MIXED = Schema(
    ("k", "m", "s"),
    {
        "go": (("k", "m"), ("m", "s"), True),
        "in": (("s",), ("k",), False),
        "up": (("k", "s"), ("k", "m", "s"), False),
    },
)

FAR, TWICE, FRIENDS = Question.read(ONE, "a*"), Question.read(ONE, "b b"), Question.read(ROADS, "knows* lives")
HOME = ("person", "knows", "person", "lives", "city")

# Six labels lead from k and four from m, each to both kinds. So each further edge makes ten times as many words,
# and 2 * 10 ** 4 have four edges.
TEN = {
    "a": (("k", "m"), ("k", "m"), True), "b": (("k", "m"), ("k", "m"), True), "c": (("k", "m"), ("k", "m"), False),
    "d": (("k",), ("k", "m"), False), "e": (("k",), ("k", "m"), False), "f": (("k",), ("k", "m"), False),
    "g": (("m",), ("k", "m"), False),
}
JUST = Schema(("k", "m"), TEN)
# One word more of each size: around and around at a kind of its own.
MORE = Schema(("k", "m", "z"), {**TEN, "h": (("z",), ("z",), False)})
# 6 * 48 ** 6 words with six edges: nobody can write them down first and count them then.
KINDS = ("a", "b", "c", "d", "e", "f")
FULL = Schema(KINDS, {"l" + kind: (KINDS, KINDS, True) for kind in "abcdefgh"})

# What an error keeps, by its class; the other ones take a message.
KEPT = {
    ParseError: "index",
    InvalidNumber: "value",
    UnknownName: "name",
    TooMany: "limit",
    NothingToUndo: "many",
    Missing: "edge",
}


def nested(depth):
    """A value that is nested so deep, by tuples, lists and dicts in turn."""
    value = "n"
    for level in range(depth):
        value = ((value,), [value], {"n": value})[level % 3]
    return value


# Values that can be passed in any place, one of each sort; all are alike to no name, number, set or word.
STRANGE = (
    None, True, False, 10 ** 60, -(10 ** 60), 10 ** 100 - 1, "", "Road", "a b", "n\n", "x" * 4000,
    [], ["n"], ["n", "a", "n"], {}, {"n": "n"}, {(1, None): [True]}, (None,), (1, 2), ((),), nested(10), (nested(9),),
    InvalidNumber(1), UnknownName("n"), ([], {}),
)


NO_SCHEMAS = STRANGE + ((), "n", 7, ("n",), (("n",), {"a": (("n",), ("n",), True)}))
NO_GRAPHS = STRANGE + ((), 7, ONE, FAR, ("n",), (("n",), ()), ((0, "a", 1),))
NO_QUESTIONS = STRANGE + ((), 7, "a*", ONE, ("star", ("label", "a")), FAR.machine)
NO_WORDS = STRANGE + ((), 7, "n", "nan", ["n"], ["n", "a", "n"], {"n": "n"}, (1,), ("a",), ("x",), ("n", "a"), (None,))


def some_graph(schema, chooser, nodes, edges):
    """A graph with so many nodes and about so many edges, chosen without order."""
    kinds = tuple(chooser.choice(schema.kinds) for _ in range(nodes))
    found = set()
    for _ in range(8 * edges):
        source, label, target = chooser.randrange(nodes), chooser.choice(schema.labels), chooser.randrange(nodes)
        is_right = schema.fits(kinds[source], label, kinds[target]) and (source != target or label in schema.loops)
        if is_right and len(found) < edges:
            found.add((source, label, target))
    return Graph(schema, kinds, tuple(sorted(found)))


def attempt(call, *told):
    """What the call returns, or the limit that it goes beyond."""
    try:
        return call(*told)
    except TooMany as error:
        return error.limit


class Case(unittest.TestCase):
    """A test case that tells True from 1, and errors from those of derived classes."""

    def same(self, value, wanted):
        self.assertEqual(value, wanted)
        self.assertEqual(repr(value), repr(wanted))

    def refused(self, error, call, *arguments, kept=None):
        """The call raises just this error, which keeps just this value."""
        with self.assertRaises(error) as caught:
            call(*arguments)
        self.assertIs(caught.exception.__class__, error)
        if error in KEPT:
            self.same(getattr(caught.exception, KEPT[error]), kept)

    def first_wrong_decides(self, call, right, wrong):
        """Of one or two wrong arguments the first one decides the error, which keeps it.

        `right` are arguments without an error, `wrong` has for each of them a pair of the error and its values.
        """
        call(*right)
        for first, (error, values) in enumerate(wrong):
            for value in values:
                one = right[:first] + (value,) + right[first + 1:]
                with self.subTest(arguments=one):
                    self.refused(error, call, *one, kept=value)
                for second in range(first + 1, len(wrong)):
                    for other in wrong[second][1]:
                        two = one[:second] + (other,) + one[second + 1:]
                        with self.subTest(arguments=two):
                            self.refused(error, call, *two, kept=value)
