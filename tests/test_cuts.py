"""Cuts of words, what they leave, and all that comes of a word by them."""
import itertools
import random

from tests.helpers import HOME, MIXED, NO_SCHEMAS, NO_WORDS, ONE, ROADS, STRANGE, Case
from tests.reckoning import words_up_to
from whichwalks.base.words import is_ring, joined, part
from whichwalks.cut.cuts import CONDITIONS, MAX_CUT, cuts, left, reducts
from whichwalks.errors import InvalidOperation, InvalidSchema, InvalidWord, TooMany, UnknownName

ALL = (ONE, ROADS, MIXED)
LONG = ("n", "a", "n", "b", "n", "a", "n")
NO_CONDITIONS = STRANGE + ("Edges", "walk", "node", "", 0, 1, ("edges",), ["nodes"], CONDITIONS, ONE, "rings ")
# Ascending tuples of conditions.
TUPLES = [told for many in range(4) for told in itertools.combinations(CONDITIONS, many)]
NO_TUPLES = STRANGE + (
    "edges", "nodes", 7, ["edges"], ("nodes", "edges"), ("edges", "edges"), ("rings", "nodes"), ("walk",), ONE,
    ("edges", "nodes", "rings", "rings"), ("edges", None), (1,), ("edges", ("nodes",)), {"edges": True}, ("Edges",),
    ("nodes", "rings", "edges"), ("edges", []),
)


def plain_cuts(schema, word, condition):
    """What [0.13] says of a word, word for word: a dict from the pairs to the lists of the words that are left."""
    size = len(word) // 2
    found = {}
    for first in range(size + 1):
        for second in range(first + 1, size + 1):
            u, v = part(schema, word, 0, first), part(schema, word, first, second)
            z = part(schema, word, second, size)
            if is_ring(schema, v):
                is_whole = len(u) == 1 and len(z) == 1
                if condition == ("rings" if is_whole else "nodes"):
                    found[first, second] = [joined(schema, u, z)]
    if condition == "edges":
        for first in range(size):
            for second in range(first + 1, size):
                u, e = part(schema, word, 0, first), part(schema, word, first, first + 1)
                v, again = part(schema, word, first + 1, second), part(schema, word, second, second + 1)
                z = part(schema, word, second + 1, size)
                if e == again and len(v) > 1:
                    found[first, second] = [joined(schema, joined(schema, u, e), z)]
                elif e == again and is_ring(schema, e):
                    found[first, second] = [joined(schema, u, z), joined(schema, joined(schema, u, e), z)]
    return found


def plain_reducts(schema, word, conditions):
    found = {word}
    while True:
        more = set(found)
        for one in found:
            for condition in conditions:
                more |= {words[0] for words in plain_cuts(schema, one, condition).values() if len(words) == 1}
        if more == found:
            return tuple(sorted(found))
        found = more


class Cuts(Case):

    def test_all_short_words(self):
        for schema in ALL:
            for word in words_up_to(schema, 5 if schema is ONE else 4):
                for condition in CONDITIONS:
                    plain = plain_cuts(schema, word, condition)
                    self.same(cuts(schema, word, condition), tuple(sorted(plain)))
                    for first in range(-1, len(word) // 2 + 2):
                        for second in range(-1, len(word) // 2 + 2):
                            if (first, second) in plain:
                                words = tuple(sorted(plain[first, second]))
                                self.same(left(schema, word, condition, first, second), words)
                            else:
                                self.refused(InvalidOperation, left, schema, word, condition, first, second)

    def test_schemas_with_other_loops(self):
        for loops in ((), ("a",), ("b",), ("a", "b")):
            schema = ONE.with_loops(loops)
            for word in words_up_to(schema, 5):
                for condition in CONDITIONS:
                    plain = plain_cuts(schema, word, condition)
                    self.same(cuts(schema, word, condition), tuple(sorted(plain)))
                    for pair, words in plain.items():
                        self.same(left(schema, word, condition, *pair), tuple(sorted(words)))

    def test_by_hand(self):
        self.same(cuts(ONE, LONG, "nodes"), ((0, 1), (0, 2), (1, 3), (2, 3)))
        self.same([cuts(ONE, LONG, "edges"), cuts(ONE, LONG, "rings")], [((0, 2),), ((0, 3),)])
        self.same([left(ONE, LONG, "edges", 0, 2), left(ONE, LONG, "nodes", 1, 3)], [(("n", "a", "n"),)] * 2)
        self.same(left(ONE, LONG, "rings", 0, 3), (("n",),))
        double = ("n", "a", "n", "a", "n")
        self.same(cuts(ONE, double, "edges"), ((0, 1),))
        self.same(left(ONE, double, "edges", 0, 1), (("n",), ("n", "a", "n")))
        # A label that cannot loop makes no double edge; with more between, it makes an edge cut.
        three = ("n", "b", "n", "b", "n", "b", "n")
        self.same([cuts(ONE, three[:5], "edges"), cuts(ONE, three, "edges")], [(), ((0, 2),)])
        self.same(left(ONE, three, "edges", 0, 2), (("n", "b", "n"),))
        self.same([cuts(ROADS, HOME, condition) for condition in CONDITIONS], [(), (), ()])
        self.same([cuts(ONE, ("n",), condition) for condition in CONDITIONS], [(), (), ()])
        self.same([cuts(ONE, ("n", "a", "n"), condition) for condition in CONDITIONS], [(), (), ((0, 1),)])
        self.same([cuts(ONE, ("n", "b", "n"), condition) for condition in CONDITIONS], [(), (), ()])

    def test_both_words_of_a_double_edge_ascend(self):
        schema = ONE.with_loops(("a", "b"))
        self.same(left(schema, ("n", "b", "n", "b", "n", "a", "n"), "edges", 0, 1), (
            ("n", "a", "n"), ("n", "b", "n", "a", "n"),
        ))
        self.same(left(schema, ("n", "a", "n", "a", "n", "b", "n"), "edges", 0, 1), (
            ("n", "a", "n", "b", "n"), ("n", "b", "n"),
        ))

    def test_pairs_that_tell_no_cut(self):
        for value in STRANGE + (7, -1, "0", (0,), [0], ONE, None):
            for condition in CONDITIONS:
                for pair in ((value, 2), (0, value), (value, value)):
                    self.refused(InvalidOperation, left, ONE, LONG, condition, *pair)
        # Turned, the same number twice, truths, a cut of another condition.
        self.refused(InvalidOperation, left, ONE, LONG, "edges", 2, 0)
        self.refused(InvalidOperation, left, ONE, LONG, "nodes", 3, 1)
        self.refused(InvalidOperation, left, ONE, LONG, "nodes", 1, 1)
        self.refused(InvalidOperation, left, ONE, LONG, "nodes", 0, True)
        self.refused(InvalidOperation, left, ONE, LONG, "nodes", False, 1)
        self.refused(InvalidOperation, left, ONE, LONG, "edges", False, 2)
        self.refused(InvalidOperation, left, ONE, LONG, "nodes", 0, 3)
        self.refused(InvalidOperation, left, ONE, LONG, "rings", 0, 2)
        self.refused(InvalidOperation, left, ONE, LONG, "edges", 0, 1)

    def test_long_words(self):
        word = ("n",) + ("b", "n") * 200
        self.same(len(cuts(ONE, word, "nodes")), 201 * 200 // 2 - 200 - 1)
        self.same(len(cuts(ONE, word, "edges")), 200 * 199 // 2 - 199)
        long = ("n",) + ("b", "n") * 50000
        self.same(len(left(ONE, long, "nodes", 1, 49999)[0]), 2 * 2 + 1)
        self.same(left(ONE, long, "rings", 0, 50000), (("n",),))
        self.same(cuts(ONE, long, "rings"), ((0, 50000),))


class Reducts(Case):

    def test_one_cut_after_the_other(self):
        chooser = random.Random(4)
        for schema in ALL:
            words = words_up_to(schema, 4)
            for word in words if len(words) < 60 else chooser.sample(words, 60):
                for conditions in TUPLES:
                    self.same(reducts(schema, word, conditions), plain_reducts(schema, word, conditions))

    def test_longer_words(self):
        chooser = random.Random(5)
        for loops in ((), ("a",), ("a", "b")):
            schema = ONE.with_loops(loops)
            for size in (6, 7):
                word = ("n",) + tuple(name for _ in range(size) for name in (chooser.choice("ab"), "n"))
                for conditions in TUPLES:
                    self.same(reducts(schema, word, conditions), plain_reducts(schema, word, conditions))

    def test_by_hand(self):
        self.same(reducts(ONE, LONG, ("nodes",)), (
            ("n", "a", "n"), ("n", "a", "n", "b", "n"), LONG, ("n", "b", "n"), ("n", "b", "n", "a", "n"),
        ))
        self.same([reducts(ONE, LONG, ("nodes", "rings"))[0], reducts(ONE, LONG, ())], [("n",), (LONG,)])
        # A double edge is no cut here.
        self.same(reducts(ONE, ("n", "a", "n", "a", "n"), ("edges",)), (("n", "a", "n", "a", "n"),))
        self.same(reducts(ROADS, HOME, CONDITIONS), (HOME,))

    def test_twelve_edges_and_thirteen(self):
        word = ("n",) + ("b", "n") * MAX_CUT
        self.same(len(reducts(ONE, word, CONDITIONS)), 12)
        self.same(reducts(ONE, word, ("rings",)), (("n",), word))
        mixed = ("n",) + ("a", "n", "b", "n") * 6
        self.same([word in reducts(ONE, mixed, CONDITIONS) for word in (mixed, ("n", "a", "n"), ("n",))], [True] * 3)
        for conditions in TUPLES:
            self.refused(TooMany, reducts, ONE, word + ("a", "n"), conditions, kept=12)
        for conditions in NO_TUPLES:
            self.refused(InvalidOperation, reducts, ONE, word + ("a", "n"), conditions)

    def test_no_ascending_tuple_of_conditions(self):
        for conditions in NO_TUPLES:
            with self.subTest(conditions=conditions):
                self.refused(InvalidOperation, reducts, ONE, LONG, conditions)


class Wrong(Case):

    def test_first_wrong_argument_decides(self):
        schemas, words = (InvalidSchema, NO_SCHEMAS), (InvalidWord, NO_WORDS + (HOME,))
        conditions = (UnknownName, NO_CONDITIONS)
        no_numbers = (InvalidOperation, STRANGE + (7, -1, "0"))
        self.first_wrong_decides(cuts, (ONE, LONG, "edges"), (schemas, words, conditions))
        wrong = (schemas, words, conditions, no_numbers, no_numbers)
        self.first_wrong_decides(left, (ONE, LONG, "edges", 0, 2), wrong)
        self.first_wrong_decides(reducts, (ONE, LONG, ("edges",)), (schemas, words, (InvalidOperation, NO_TUPLES)))

    def test_constants(self):
        self.same([CONDITIONS, MAX_CUT], [("edges", "nodes", "rings"), 12])
