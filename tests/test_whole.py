"""What holds over the whole program: other names, everything turned, fewer loops, and nothing that is changed."""
import copy
import itertools
import random

from tests.helpers import FRIENDS, FULL, MIXED, ONE, ROADS, TWICE, Case, attempt, some_graph
from tests.reckoning import some_expressions, some_machine
from tests.test_closures import is_let
from tests.test_cuts import TUPLES
from whichwalks.ask.compare import is_within, within_paper
from whichwalks.ask.expressions import is_expression
from whichwalks.ask.questions import Question, is_machine
from whichwalks.base.schemas import Schema
from whichwalks.base.words import is_word, turned, words_of
from whichwalks.close.across import cover_paper, is_cover_paper, is_covered
from whichwalks.close.closures import narrower, narrowing, wider, widening
from whichwalks.close.loops import greatest_short, least_enough
from whichwalks.cut.conditions import demanded, is_met, least_table, paper
from whichwalks.cut.cuts import CONDITIONS, cuts, reducts
from whichwalks.cut.drawings import drawn_of, rest
from whichwalks.cut.readings import agreement, do_agree, is_agreement, profile, widest
from whichwalks.desk.store import Store
from whichwalks.graph.graphs import Graph
from whichwalks.graph.reach import reached, walk_paper
from whichwalks.graph.ways import READINGS, is_way, pairs, way, ways
from whichwalks.text.formats import read_graph, read_question, read_schema, write_graph, write_question, write_schema

ALL = (ONE, ONE.with_loops(("a", "b")), ROADS, MIXED, MIXED.with_loops(()))


def some_values(seed, many):
    """Two questions and a graph of each schema, several times."""
    chooser = random.Random(seed)
    for schema in ALL:
        expressions = some_expressions(schema, chooser, 24)[-16:]
        for _ in range(many):
            one = Question(schema, chooser.choice(expressions))
            other = Question.of_machine(schema, some_machine(schema, chooser, 4))
            yield one, other, some_graph(schema, chooser, chooser.randrange(1, 5), chooser.randrange(7))


class Names:
    """Other names for a schema, in another order than the old ones."""

    def __init__(self, schema):
        old = schema.kinds + schema.labels
        self.table = {name: "zyxwvutsrq"[at] + "q" * (at % 3) for at, name in enumerate(old)}
        self.schema = schema.renamed(self.table)

    def value(self, told):
        """A value with the other names."""
        if isinstance(told, tuple):
            return tuple(self.value(part) for part in told)
        return self.table.get(told, told)

    def set(self, told):
        return tuple(sorted(self.value(told)))

    def question(self, question):
        kinds, firsts, steps, lasts = question.machine
        steps = tuple(sorted((state, self.table[label], target) for state, label, target in steps))
        return Question.of_machine(self.schema, (self.value(kinds), firsts, steps, lasts))

    def graph(self, graph):
        return Graph(self.schema, self.value(graph.kinds), tuple(sorted(self.value(graph.edges))))


class Renamed(Case):

    def test_schemas_and_words(self):
        for schema in ALL:
            names = Names(schema)
            self.same(names.set(schema.kinds), names.schema.kinds)
            self.same(sorted(names.value(tuple(schema.steps()))), list(names.schema.steps()))
            for word in words_of(schema, 3)[:40]:
                other = names.value(word)
                self.same(is_word(names.schema, other), True)
                for condition in CONDITIONS:
                    self.same(cuts(names.schema, other, condition), cuts(schema, word, condition))
                    told = tuple(names.value(one) for one in reducts(schema, word, (condition,)))
                    self.same(reducts(names.schema, other, (condition,)), tuple(sorted(told)))
                    for pair in cuts(schema, word, condition):
                        graph, start, end = drawn_of(schema, word, condition, (pair,))
                        self.assertEqual(drawn_of(names.schema, other, condition, (pair,)), (names.graph(graph), start, end))

    def test_questions(self):
        for one, other, _ in some_values(201, 5):
            names = Names(one.schema)
            two, more = names.question(one), names.question(other)
            self.same([len(two), bool(two)], [len(one), bool(one)])
            self.same(names.question(one) == two, True)
            for size in range(4):
                self.same(two.words(size), tuple(sorted(names.value(one.words(size)))))
                self.same(two.count(size + 4), one.count(size + 4))
            self.same(is_within(two, more), is_within(one, other))
            for call in (lambda a, b: a | b, lambda a, b: a & b, lambda a, b: a - b, lambda a, b: a + b):
                told = attempt(call, one, other)
                self.assertEqual(attempt(call, two, more), told if isinstance(told, int) else names.question(told))

    def test_ways_and_pairs(self):
        for one, _, graph in some_values(202, 6):
            names = Names(one.schema)
            two, other = names.question(one), names.graph(graph)
            for reading in READINGS:
                self.same(pairs(two, other, reading), pairs(one, graph, reading))
                self.same(ways(two, other, reading, 3), tuple(sorted(names.value(ways(one, graph, reading, 3)))))
                for start, end in itertools.product(range(len(graph)), repeat=2):
                    found = [way(one, graph, reading, start, end), way(two, other, reading, start, end)]
                    self.same([part is None or len(part) for part in found[:1]], [part is None or len(part) for part in found[1:]])
            for start in range(len(graph)):
                told = {(node, len(reached(one, graph, start))) for node, _ in reached(one, graph, start)}
                self.same({(node, len(reached(two, other, start))) for node, _ in reached(two, other, start)} == told, True)

    def test_conditions_and_readings(self):
        for one, other, _ in some_values(203, 6):
            names = Names(one.schema)
            two, more = names.question(one), names.question(other)
            self.same([profile(two), [widest(two, reading) for reading in READINGS]],
                      [profile(one), [widest(one, reading) for reading in READINGS]])
            for condition in CONDITIONS:
                self.same(len(demanded(two, condition)), len(demanded(one, condition)))
                self.same(len(least_table(two, condition) or ()), len(least_table(one, condition) or ()))
                told = paper(one, condition)
                self.same(paper(two, condition)[0], told[0])
                if told[0] == "fails":
                    value = ("part", condition, ("fails", names.value(told[1])) + told[2:])
                    self.same(is_agreement(two, "walk", "acyclic", value), True)
            for conditions in TUPLES:
                if is_let(one.schema, conditions):
                    for call in (wider, narrower):
                        told = attempt(call, one, conditions)
                        self.assertEqual(attempt(call, two, conditions), told if told == 24 else names.question(told))
            for reading, by in itertools.product(READINGS, repeat=2):
                if (reading, by) != ("walk", "trail"):
                    self.same(attempt(is_covered, two, reading, more, by), attempt(is_covered, one, reading, other, by))
                for call in (least_enough, greatest_short):
                    told = [names.set(labels) for labels in call(one, reading, by)]
                    self.same(call(two, reading, by), tuple(sorted(told)))

    def test_stores(self):
        for one, other, graph in some_values(204, 4):
            names = Names(one.schema)
            stores = Store(one.schema), Store(names.schema)
            for kind in graph.kinds:
                self.same(stores[0].add(kind), stores[1].add(names.value(kind)))
            for edge in graph.edges:
                stores[0].put(*edge)
                stores[1].put(*names.value(edge))
            for reading in READINGS:
                stores[0].keep("one", one, reading)
                stores[1].keep("one", names.question(one), reading)
                self.same([stores[1].plan("one"), stores[1].pairs("one")], [stores[0].plan("one"), stores[0].pairs("one")])
            self.assertEqual(stores[1].graph, names.graph(stores[0].graph))


class Turned(Case):

    def test_pairs(self):
        for one, _, graph in some_values(205, 6):
            for reading in READINGS:
                told = tuple(sorted((end, start) for start, end in pairs(one, graph, reading)))
                self.same(pairs(one.turned(), graph.turned(), reading), told)
                found = tuple(sorted(told[::-1] for told in ways(one, graph, reading, 3)))
                self.same(ways(one.turned(), graph.turned(), reading, 3), found)

    def test_conditions_and_readings(self):
        for one, other, _ in some_values(206, 6):
            two, more = one.turned(), other.turned()
            self.same([profile(two), [widest(two, reading) for reading in READINGS]],
                      [profile(one), [widest(one, reading) for reading in READINGS]])
            for reading, by in itertools.product(READINGS, repeat=2):
                if (reading, by) != ("walk", "trail"):
                    self.same(is_covered(two, reading, more, by), is_covered(one, reading, other, by))
                self.same(do_agree(two, reading, by), do_agree(one, reading, by))
                self.same([least_enough(two, reading, by), greatest_short(two, reading, by)],
                          [least_enough(one, reading, by), greatest_short(one, reading, by)])

    def test_words_and_their_cuts(self):
        for schema in ALL:
            for word in words_of(schema, 4)[::5]:
                edges, back = len(word) // 2, turned(schema, word)
                for condition in CONDITIONS:
                    last = edges - 1 if condition == "edges" else edges
                    told = sorted((last - second, last - first) for first, second in cuts(schema, word, condition))
                    self.same(cuts(schema.turned(), back, condition), tuple(told))
                    for pair in cuts(schema, word, condition):
                        if condition != "edges" or pair[1] - pair[0] > 1:
                            left = rest(schema, word, condition, (pair,))
                            pair = (last - pair[1], last - pair[0])
                            self.same(rest(schema.turned(), back, condition, (pair,)), left[::-1])

    def test_widening_and_narrowing(self):
        for one, _, _ in some_values(207, 4):
            for conditions in TUPLES:
                if not is_let(one.schema, conditions):
                    continue
                for word in words_of(one.schema, 2)[:10]:
                    told = widening(one, conditions, word)
                    back = widening(one.turned(), conditions, word[::-1])
                    self.same(told is None or len(told[0]), back is None or len(back[0]))
                    if word in one:
                        told = narrowing(one, conditions, word), narrowing(one.turned(), conditions, word[::-1])
                        self.same(told[0] is None, told[1] is None)


class Loops(Case):

    def test_fewer_loops(self):
        for one, other, _ in some_values(208, 8):
            for question in (one, other):
                met = profile(question)
                for labels in itertools.chain(*[itertools.combinations(question.schema.loops, many) for many in range(3)]):
                    less = profile(question.over(question.schema.with_loops(labels)))
                    self.assertLessEqual(set(met), set(less))

    def test_what_is_true_and_what_is_not(self):
        for one, other, _ in some_values(209, 8):
            both, common = one | other, one & other
            for condition in CONDITIONS:
                if is_met(one, condition) and is_met(other, condition):
                    self.same(is_met(both, condition), True)
                    if condition != "edges":
                        self.same(is_met(common, condition), True)
            if is_met(one, "nodes"):
                self.same(is_met(one, "edges"), True)
        # No kind twice, no label twice.
        self.same([profile(Question.read(ROADS, "lives")), profile(Question.read(ROADS, "knows lives"))], [CONDITIONS] * 2)
        self.same([do_agree(Question.read(ONE, "a b"), "walk", "trail"), do_agree(Question.read(ONE, "a b"), "trail", "simple")],
                  [True, False])
        # Joined questions, and a question over a schema with more loops.
        self.same([do_agree(Question.read(ONE, "b"), "walk", "acyclic"), do_agree(TWICE, "walk", "acyclic")], [True, False])
        self.same([is_met(TWICE, "edges"), is_met(TWICE.over(ONE.with_loops(("b",))), "edges")], [True, False])


class Changes(Case):

    def test_no_call_changes_its_arguments(self):
        labels = {"a": (("n",), ("n",), True)}
        schema = Schema(("n",), labels)
        labels["b"] = labels.pop("a")
        self.same([schema.labels, "b" in schema], [("a",), False])
        names = {"a": "c"}
        schema.renamed(names)
        self.same(names, {"a": "c"})
        firsts = FRIENDS.firsts
        firsts["city"] = 7
        self.same(FRIENDS.firsts, {"person": 0})
        for call in (
            lambda told: is_expression(ONE, told), lambda told: is_machine(ONE, told), lambda told: is_word(ONE, told),
            lambda told: is_way(Graph(ONE, ("n",), ()), told), lambda told: is_agreement(TWICE, "walk", "simple", told),
            lambda told: is_cover_paper(TWICE, "walk", TWICE, "simple", told), lambda told: told in TWICE,
        ):
            for value in ([["n"], {"n": ["a"]}], ("agree", [("holds", [])]), {"n": {"n": []}}, ("beyond", ["n"], None, ())):
                kept = copy.deepcopy(value)
                self.same(call(value), False)
                self.same(value, kept)

    def test_equal_calls_have_equal_results(self):
        for one, other, graph in some_values(210, 3):
            two, more = Question.of_machine(one.schema, one.machine), Question.of_machine(one.schema, other.machine)
            same = Graph(graph.schema, graph.kinds, graph.edges)
            for reading, by in itertools.product(READINGS, repeat=2):
                self.assertEqual(agreement(one, reading, by), agreement(two, reading, by))
                if (reading, by) != ("walk", "trail"):
                    self.assertEqual(attempt(cover_paper, one, reading, other, by), attempt(cover_paper, two, reading, more, by))
                for start in range(len(graph)):
                    self.assertEqual(way(one, graph, reading, start, 0), way(two, same, reading, start, 0))
            self.assertEqual([within_paper(one, other), walk_paper(one, graph, 0, 0)],
                             [within_paper(two, more), walk_paper(two, same, 0, 0)])

    def test_iteration_only_where_it_is_said(self):
        for value in (ONE, FRIENDS, Graph(ONE, ("n",), ())):
            self.assertRaises(TypeError, iter, value)
            self.assertRaises(TypeError, list, value)
        self.same(list(Store(ONE)), [])

    def test_texts_of_everything(self):
        for one, other, graph in some_values(211, 4):
            schema = read_schema(write_schema(one.schema))
            self.assertEqual(schema, one.schema)
            self.assertEqual([read_question(schema, write_question(one)), read_graph(schema, write_graph(graph))], [one, graph])
            for reading in READINGS:
                self.same(pairs(read_question(schema, write_question(one)), graph, reading), pairs(one, graph, reading))

    def test_largest_schemas(self):
        question = Question.read(FULL, "(la|lb lc)* ld?")
        store = Store(FULL)
        for kind in FULL.kinds:
            store.add(kind)
        store.put(0, "la", 1)
        store.keep("abcdefgh", question, "acyclic")
        self.same([store.pairs("abcdefgh")[:2], store.plan("abcdefgh")], [((0, 0), (0, 1)), widest(question, "acyclic")])
