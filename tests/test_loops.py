"""Labels that must not loop, against all sets of labels that can loop."""
import itertools
import random

from tests.helpers import FAR, FRIENDS, FULL, MIXED, NO_QUESTIONS, ONE, ROADS, STRANGE, TWICE, Case
from tests.reckoning import some_expressions, some_machine
from tests.test_ways import NO_READINGS
from whichwalks.ask.questions import Question
from whichwalks.close.loops import greatest_short, is_enough, least_enough
from whichwalks.cut.readings import do_agree
from whichwalks.errors import InvalidOperation, InvalidQuestion, UnknownName
from whichwalks.graph.ways import READINGS

BOTH = ONE.with_loops(("a", "b"))
ALL = (ONE, ONE.with_loops(()), BOTH, ROADS, MIXED.with_loops(("go", "up")), FULL.with_loops(("la", "lb", "lc")))
DOUBLE = Question.read(ONE, "a a")
NO_SETS = STRANGE + (
    "a", 7, ["a"], ("b",), ("a", "b"), ("a", "a"), ("n",), ("c",), (("a",),), {"a": True}, ("a", None), (True,), ONE,
)


def sets_of(labels):
    return [told for many in range(len(labels) + 1) for told in itertools.combinations(labels, many)]


def plainly_enough(question, labels, reading, other):
    """What [16.1] says."""
    schema = question.schema
    kept = tuple(label for label in schema.loops if label not in labels)
    return do_agree(question.over(schema.with_loops(kept)), reading, other)


def some_questions(seed, many):
    chooser = random.Random(seed)
    for schema in ALL:
        for expression in some_expressions(schema, chooser, many + len(schema.labels))[-many:]:
            yield Question(schema, expression)
        for _ in range(many):
            yield Question.of_machine(schema, some_machine(schema, chooser, 4))


class Loops(Case):

    def test_by_hand(self):
        self.same(least_enough(DOUBLE, "walk", "trail"), (("a",),))
        self.same(greatest_short(DOUBLE, "walk", "trail"), ((),))
        self.same([least_enough(DOUBLE, "walk", "acyclic"), greatest_short(DOUBLE, "acyclic", "walk")], [(), (("a",),)])
        self.same([is_enough(DOUBLE, ("a",), "trail", "simple"), is_enough(DOUBLE, (), "trail", "simple")], [True, False])
        self.same([least_enough(FRIENDS, "walk", "acyclic"), greatest_short(FRIENDS, "walk", "acyclic")], [((),), ()])
        # Either one of two labels is enough, or only both are.
        either = Question.read(BOTH, "a b|b a|a|b")
        self.same(least_enough(Question.read(BOTH, "a a|b b"), "walk", "trail"), (("a", "b"),))
        self.same(greatest_short(Question.read(BOTH, "a a|b b"), "walk", "trail"), (("a",), ("b",)))
        self.same(least_enough(either, "trail", "simple"), ((),))
        three = Question.read(FULL.with_loops(("la", "lb", "lc")), ":a la :a lb :a|:a lb :a|:a lc :a")
        self.same(least_enough(three, "trail", "simple"), (("lb",),))
        self.same(greatest_short(three, "trail", "simple"), (("la", "lc"),))

    def test_double_edges_of_two_labels(self):
        schema = FULL.with_loops(("la", "lb"))
        question = Question.read(schema, ":a la :a la :a|:a lb :a lb :a")
        self.same(least_enough(question, "walk", "trail"), (("la", "lb"),))
        self.same(greatest_short(question, "walk", "trail"), (("la",), ("lb",)))
        self.same([is_enough(question, one, "walk", "trail") for one in sets_of(("la", "lb"))], [False] * 3 + [True])

    def test_all_sets(self):
        counted = {True: 0, False: 0}
        for question in some_questions(101, 5):
            for reading, other in itertools.combinations_with_replacement(READINGS, 2):
                sets = sets_of(question.schema.loops)
                enough = [one for one in sets if plainly_enough(question, one, reading, other)]
                for one in sets:
                    counted[one in enough] += 1
                    self.same(is_enough(question, one, other, reading), one in enough)
                short = [one for one in sets if one not in enough]
                least = [one for one in enough if not any(set(two) < set(one) for two in enough)]
                most = [one for one in short if not any(set(one) < set(two) for two in short)]
                self.same(least_enough(question, reading, other), tuple(sorted(least)))
                self.same(greatest_short(question, other, reading), tuple(sorted(most)))
        self.assertTrue(all(many > 100 for many in counted.values()), counted)

    def test_more_labels_stay_enough(self):
        for question in some_questions(102, 4):
            for one in sets_of(question.schema.loops):
                for other in sets_of(question.schema.loops):
                    if set(one) <= set(other) and is_enough(question, one, "walk", "acyclic"):
                        self.same(is_enough(question, other, "walk", "acyclic"), True)

    def test_all_eight_labels(self):
        question = Question.read(FULL, ":a (la la|lb lb) :a")
        least = least_enough(question, "walk", "trail")
        self.same(least, (("la", "lb"),))
        self.same(greatest_short(question, "walk", "trail"), (
            ("la", "lc", "ld", "le", "lf", "lg", "lh"), ("lb", "lc", "ld", "le", "lf", "lg", "lh"),
        ))
        self.same([least_enough(question, "walk", "acyclic"), greatest_short(question, "walk", "acyclic")], [
            (), (FULL.labels,)])

    def test_equal_readings_and_schemas_without_loops(self):
        for question in (FAR, DOUBLE, FRIENDS):
            for reading in READINGS:
                self.same(least_enough(question, reading, reading), ((),))
                self.same(greatest_short(question, reading, reading), ())
        bare = TWICE.over(ONE.with_loops(()))
        self.same([is_enough(bare, (), "walk", "simple"), is_enough(bare, (), "walk", "acyclic")], [True, False])
        self.same([least_enough(bare, "walk", "simple"), greatest_short(bare, "walk", "simple")], [((),), ()])
        self.same([least_enough(bare, "walk", "acyclic"), greatest_short(bare, "walk", "acyclic")], [(), ((),)])
        self.refused(InvalidOperation, is_enough, bare, ("a",), "walk", "simple")


class Wrong(Case):

    def test_first_wrong_argument_decides(self):
        question, reading = (InvalidQuestion, NO_QUESTIONS), (UnknownName, NO_READINGS)
        self.first_wrong_decides(is_enough, (DOUBLE, ("a",), "walk", "trail"), (
            question, (InvalidOperation, NO_SETS), reading, reading,
        ))
        for call in (least_enough, greatest_short):
            self.first_wrong_decides(call, (DOUBLE, "walk", "trail"), (question, reading, reading))
