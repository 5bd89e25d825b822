"""Every example of the document, with just the answers that it shows, and the interface that it lists."""
import doctest
import inspect
import pathlib

from tests.helpers import FAR, FRIENDS, HOME, ONE, ROADS, TWICE, Case
from whichwalks import errors
from whichwalks.ask import compare, expressions, questions
from whichwalks.base import names, schemas, words
from whichwalks.close import across, closures, loops
from whichwalks.cut import conditions, cuts, drawings, readings
from whichwalks.desk import store
from whichwalks.graph import graphs, reach, ways
from whichwalks.text import formats, shell

MODULES = (
    names, schemas, words, expressions, questions, compare, graphs, ways, reach, cuts, conditions, readings, drawings,
    closures, across, loops, store, formats, shell,
)

PAIR = graphs.Graph(ONE, ("n", "n"), ((0, "a", 1), (0, "b", 1), (1, "a", 1)))
RING = graphs.Graph(ONE, ("n", "n"), ((0, "b", 1), (1, "b", 0)))

# As they stand in the document.
EXAMPLES = r"""
>>> [is_integer(-3), is_integer(True), is_name("road"), is_name("Road"), is_set(("a", "b")), is_set(("b", "a")), is_set(())]
[True, False, True, False, True, False, True]
>>> [ROADS.kinds, ROADS.loops, ROADS["lives"], len(ROADS), str(ROADS), ROADS.fits("person", "lives", "city"), "city" in ROADS]
[('city', 'person'), ('road',), (('person',), ('city',), False), 3, 'schema of 2 kinds, 3 labels', True, True]
>>> [list(ROADS.steps()), ROADS.turned()["lives"], ROADS.with_loops(("knows",)).loops, ONE.renamed({"a": "b", "b": "a"}).loops]
[[('city', 'road', 'city'), ('person', 'knows', 'person'), ('person', 'lives', 'city')], (('city',), ('person',), False), ('knows',), ('b',)]
>>> home = ("person", "knows", "person", "lives", "city")
>>> [is_word(ROADS, home), is_word(ROADS, ("city", "lives", "person")), edges_of(ROADS, home)[1], part(ROADS, home, 1, 2), part(ROADS, home, 0, 0)]
[True, False, ('person', 'lives', 'city'), ('person', 'lives', 'city'), ('person',)]
>>> [is_ring(ONE, ("n", "a", "n")), is_ring(ONE, ("n", "b", "n")), is_ring(ONE, ("n", "b", "n", "b", "n")), is_ring(ONE, ("n",))]
[True, False, True, False]
>>> [joined(ROADS, home, ("city", "road", "city"))[-3:], turned(ROADS, home), len(words_of(ONE, 3)), words_of(ROADS, 0)]
[('city', 'road', 'city'), ('city', 'lives', 'person', 'knows', 'person'), 8, (('city',), ('person',))]
>>> tree = read(ROADS, "knows* lives (road|:city)")
>>> [tree[0], tree[1], write(ROADS, tree), write(ROADS, read(ROADS, " ( (knows) lives)road+ "))]
['then', ('then', ('star', ('label', 'knows')), ('label', 'lives')), 'knows* lives (road|:city)', 'knows lives road+']
>>> [has_word(ROADS, tree, ("person", "lives", "city")), has_word(ROADS, tree, ("person", "lives", "city", "road", "city", "road", "city"))]
[True, False]
>>> [is_expression(ONE, ("star", ("label", "a"))), is_expression(ONE, ("star", ("label", "c"))), read(ONE, "a b|a?")[0]]
[True, False, 'or']
>>> [FAR.machine, TWICE.machine, len(FRIENDS), str(FRIENDS), FRIENDS.firsts]
[(('n',), (0,), ((0, 'a', 0),), (0,)), (('n', 'n', 'n'), (0,), ((0, 'b', 1), (1, 'b', 2)), (2,)), 2, 'question of 2 states, 2 steps', {'person': 0}]
>>> [FRIENDS.words(2), FRIENDS.shortest(), FAR.count(5), FRIENDS.state(("person", "knows", "person")), ("n", "b", "n") in FAR]
[(('person', 'knows', 'person', 'lives', 'city'),), ('person', 'lives', 'city'), 1, 0, False]
>>> short = Question.read(ONE, "a?")
>>> [short == Question.of_words(ONE, (("n", "a", "n"), ("n",))), (FAR - short).shortest(), (short + short) == Question.read(ONE, "a? a?"), bool(FAR & TWICE)]
[True, ('n', 'a', 'n', 'a', 'n'), True, False]
>>> [is_within(short, FAR), within_paper(short, FAR), within_paper(FAR, short)[0], is_within_paper(FAR, short, ("word", ("n", "a", "n", "a", "n")))]
[True, ('within', ((0, 0), (1, 0))), 'word', True]
>>> pair = Graph(ONE, ("n", "n"), ((0, "a", 1), (0, "b", 1), (1, "a", 1)))
>>> [pair[0], (1, "a", 1) in pair, (1, "b", 0) in pair, len(pair), str(pair | pair), (pair | pair)[3], pair.turned().edges]
[((0, 'a', 1), (0, 'b', 1)), True, False, 2, 'graph of 4 nodes, 6 edges', ((3, 'a', 3),), ((1, 'a', 0), (1, 'a', 1), (1, 'b', 0))]
>>> [path_graph(ROADS, home).kinds, path_graph(ROADS, home).edges, pair.without_edge((0, "a", 1)).with_node("n").kinds]
[('person', 'person', 'city'), ((0, 'knows', 1), (1, 'lives', 2)), ('n', 'n', 'n')]
>>> [does_count(pair, (0, "a", 1, "a", 1), reading) for reading in READINGS], [does_count(pair, (1, "a", 1), reading) for reading in READINGS]
([True, True, False, False], [True, True, True, False])
>>> [ways(FAR, pair, "acyclic", 5), len(ways(FAR, pair, "walk", 2)), pairs(FAR, pair, "simple"), way(FAR, pair, "trail", 1, 0)]
[((0,), (0, 'a', 1), (1,)), 6, ((0, 0), (0, 1), (1, 1)), None]
>>> ring = Graph(ONE, ("n", "n"), ((0, "b", 1), (1, "b", 0)))
>>> [pairs(TWICE, ring, "walk"), pairs(TWICE, ring, "acyclic"), way(TWICE, ring, "simple", 1, 1), word_of(ring, (0, "b", 1))]
[((0, 0), (1, 1)), (), (1, 'b', 0, 'b', 1), ('n', 'b', 'n')]
>>> [reached(TWICE, ring, 0), walk_paper(TWICE, ring, 0, 1)[0], is_walk_paper(TWICE, ring, 0, 0, ("way", (0, "b", 1, "b", 0)))]
[((0, 0), (0, 2), (1, 1)), 'none', True]
>>> [is_walk_paper(FAR, pair, 1, 0, ("none", ((1, 0),))), is_walk_paper(FAR, pair, 1, 0, ("none", ())), is_walk_paper(FAR, pair, 0, 1, ("none", ((0, 0),)))]
[True, False, False]
>>> long = ("n", "a", "n", "b", "n", "a", "n")
>>> [cuts(ONE, long, "nodes"), cuts(ONE, long, "edges"), cuts(ONE, long, "rings"), left(ONE, long, "edges", 0, 2), left(ONE, long, "nodes", 1, 3)]
[((0, 1), (0, 2), (1, 3), (2, 3)), ((0, 2),), ((0, 3),), (('n', 'a', 'n'),), (('n', 'a', 'n'),)]
>>> [cuts(ONE, ("n", "a", "n", "a", "n"), "edges"), left(ONE, ("n", "a", "n", "a", "n"), "edges", 0, 1)]
[((0, 1),), (('n',), ('n', 'a', 'n'))]
>>> [len(reducts(ONE, long, ("nodes",))), reducts(ONE, long, ("nodes", "rings"))[0], reducts(ROADS, home, CONDITIONS) == (home,)]
[5, ('n',), True]
>>> [[is_met(asked, condition) for condition in CONDITIONS] for asked in (FAR, TWICE, FRIENDS)]
[[True, True, True], [True, True, False], [True, True, True]]
>>> [paper(FAR, "nodes"), paper(TWICE, "rings"), is_paper(TWICE, "rings", ("fails", ("n", "b", "n", "b", "n"), 0, 2))]
[('holds', ()), ('fails', ('n', 'b', 'n', 'b', 'n'), 0, 2), True]
>>> near = Question.read(ONE, "a a?")
>>> [demanded(near, "nodes"), least_table(near, "nodes"), demanded(near, "edges"), is_paper(near, "edges", ("holds", ((2, (0,)),)))]
[((2, (1,)),), ((2, (1,)),), ((2, (0, 1)),), False]
>>> [demanded(Question.read(ONE, "a b"), "nodes"), least_table(Question.read(ONE, "a b"), "nodes")]
[(), None]
>>> [between("acyclic", "trail"), between("walk", "walk"), do_agree(TWICE, "simple", "walk"), profile(TWICE), widest(TWICE, "simple"), widest(TWICE, "acyclic")]
[('nodes', 'rings'), (), True, ('edges', 'nodes'), 'walk', 'acyclic']
>>> [agreement(FAR, "walk", "acyclic"), agreement(TWICE, "acyclic", "trail"), profile(near), profile(Question.read(ROADS, "lives lives"))]
[('agree', (('holds', ()), ('holds', ()), ('holds', ()))), ('part', 'rings', ('fails', ('n', 'b', 'n', 'b', 'n'), 0, 2)), ('edges', 'nodes'), ('edges', 'nodes', 'rings')]
>>> graph, start, end = drawn(ONE, ("n", "b", "n", "a", "n", "b", "n"), "edges", (0, 2))
>>> [graph.kinds, graph.edges, start, end, rest(ONE, ("n", "b", "n", "a", "n", "b", "n"), "edges", ((0, 2),))]
[('n', 'n'), ((0, 'b', 1), (1, 'a', 0)), 0, 1, ('n', 'b', 'n')]
>>> graph, start, end = drawn(ONE, ("n", "a", "n", "a", "n"), "edges", (0, 1))
>>> [graph.edges, start, end, drawn_way(ONE, ("n", "b", "n", "b", "n"), "rings", ((0, 2),))]
[((0, 'a', 0),), 0, 0, (0, 'b', 1, 'b', 0)]
>>> thrice = Question.read(ONE, "b b b")
>>> [wider(TWICE, ("rings",)) == Question.read(ONE, "b b|:n"), wider(thrice, ("nodes",)) == Question.read(ONE, "b|b b b")]
[True, True]
>>> [bool(narrower(TWICE, ("rings",))), narrower(TWICE, ("edges", "nodes")) == TWICE, bool(narrower(thrice, ("nodes",)))]
[False, True, False]
>>> [is_widening(thrice, ("nodes",), ("n", "b", "n"), (("n", "b", "n", "b", "n", "b", "n"), "nodes", ((1, 3),))), widening(thrice, (), ("n",))]
[True, None]
>>> [is_covered(TWICE, "walk", TWICE, "simple"), is_covered(TWICE, "walk", TWICE, "acyclic"), is_covered(TWICE, "acyclic", FAR, "walk")]
[True, False, False]
>>> is_cover_paper(TWICE, "walk", TWICE, "acyclic", ("beyond", ("n", "b", "n", "b", "n"), "rings", ((0, 2),)))
True
>>> [is_covered(TWICE, "simple", Question.read(ONE, ":n|b b"), "acyclic"), cover_paper(TWICE, "trail", FAR, "trail")]
[True, ('beyond', ('n', 'b', 'n', 'b', 'n'), None, ())]
>>> double = Question.read(ONE, "a a")
>>> [least_enough(double, "walk", "trail"), greatest_short(double, "walk", "trail"), least_enough(FRIENDS, "walk", "acyclic")]
[(('a',),), ((),), ((),)]
>>> [least_enough(double, "walk", "acyclic"), greatest_short(double, "acyclic", "walk"), is_enough(double, ("a",), "trail", "simple")]
[(), (('a',),), True]
>>> store = Store(ROADS)
>>> [store.add(kind) for kind in ("person", "person", "city")]
[0, 1, 2]
>>> [store.put(0, "knows", 1), store.put(1, "knows", 0), store.put(1, "lives", 2), store.keep("far", FRIENDS, "acyclic")]
[None, None, None, None]
>>> [store.plan("far"), store.pairs("far"), store.has_pair("far", 0, 1), str(store)]
['walk', ((0, 2), (1, 2)), False, 'store of 3 nodes, 3 edges, 1 questions']
>>> [store.way("far", 0, 2), store.undo(many=2), store.pairs("far") if "far" in store else (), store.redo(many=2)]
[(0, 'knows', 1, 'lives', 2), 5, (), 7]
>>> write_schema(ROADS).split("\n")
['kinds city person', 'label knows person -> person apart', 'label lives person -> city apart', 'label road city -> city loops']
>>> write_question(TWICE).split("\n")
['state n first', 'step b 1', 'state n', 'step b 2', 'state n last']
>>> [write_graph(Graph(ONE, ("n", "n"), ((0, "b", 1),))).split("\n"), read_question(ONE, "") == Question.of_words(ONE, ())]
[['node n', 'node n', 'edge 0 b 1'], True]
>>> [write_value(("fails", ("n", "a", "n"), 0, 1)), read_value("( =holds ( ) - )")]
['( =fails ( =n =a =n ) 0 1 )', ('holds', (), None)]
>>> shell = Shell(write_schema(ROADS))
>>> [shell("add person"), shell("add city"), shell("put 0 lives 1"), shell("keep far acyclic knows* lives"), shell("pairs far"), shell("plan far")]
['0', '1', 'done', 'done', '0 1', 'walk']
>>> [shell("way far 0 1"), shell("put 1 lives 0"), shell("forget near"), shell("agree far trail"), shell("undo 9"), shell("fly")]
['0 lives 1', 'graph', 'unknown near', 'yes', 'undo 9', 'what']
"""

FUNCTIONS = {
    names: "is_integer(value); is_name(value); is_set(value)",
    words: "is_word(schema, value); is_ring(schema, word); edges_of(schema, word); joined(schema, one, other);"
           " turned(schema, word); part(schema, word, first, last); words_of(schema, size)",
    expressions: "is_expression(schema, value); has_word(schema, expression, word); write(schema, expression);"
                 " read(schema, text)",
    questions: "is_machine(schema, value)",
    compare: "is_within(one, other); within_paper(one, other); is_within_paper(one, other, value)",
    graphs: "path_graph(schema, word)",
    ways: "is_way(graph, value); word_of(graph, way); does_count(graph, way, reading);"
          " ways(question, graph, reading, size); way(question, graph, reading, start, end);"
          " pairs(question, graph, reading)",
    reach: "reached(question, graph, start); walk_paper(question, graph, start, end);"
           " is_walk_paper(question, graph, start, end, value)",
    cuts: "cuts(schema, word, condition); left(schema, word, condition, first, second);"
          " reducts(schema, word, conditions)",
    conditions: "is_met(question, condition); demanded(question, condition); least_table(question, condition);"
                " paper(question, condition); is_paper(question, condition, value)",
    readings: "between(one, other); do_agree(question, one, other); profile(question); widest(question, reading);"
              " agreement(question, one, other); is_agreement(question, one, other, value)",
    drawings: "drawn(schema, word, condition, *cuts); drawn_of(schema, word, condition, cuts);"
              " drawn_way(schema, word, condition, cuts); rest(schema, word, condition, cuts)",
    closures: "wider(question, conditions); narrower(question, conditions); widening(question, conditions, word);"
              " narrowing(question, conditions, word); is_widening(question, conditions, word, value);"
              " is_narrowing(question, conditions, word, value)",
    across: "is_covered(one, reading, other, by); cover_paper(one, reading, other, by);"
            " is_cover_paper(one, reading, other, by, value)",
    loops: "is_enough(question, labels, reading, other); least_enough(question, reading, other);"
           " greatest_short(question, reading, other)",
    formats: "write_schema(schema); write_graph(graph); write_question(question); write_value(value);"
             " read_schema(text); read_graph(schema, text); read_question(schema, text); read_value(text)",
}

METHODS = {
    schemas.Schema: "__init__(self, kinds, labels); fits(self, one, label, other); steps(self); turned(self);"
                    " with_loops(self, labels); renamed(self, names)",
    questions.Question: "__init__(self, schema, expression); starred(self); turned(self); over(self, schema);"
                        " state(self, word); target(self, state, label, kind); words(self, size); count(self, size);"
                        " shortest(self)",
    graphs.Graph: "__init__(self, schema, kinds, edges); with_node(self, kind); with_edge(self, edge);"
                  " without_edge(self, edge); turned(self)",
    store.Store: "__init__(self, schema); add(self, kind); put(self, source, label, target);"
                 " drop(self, source, label, target); keep(self, name, question, reading); forget(self, name);"
                 " plan(self, name); pairs(self, name); has_pair(self, name, source, target);"
                 " way(self, name, source, target); undo(self, *, many=1); redo(self, *, many=1); trial(self);"
                 " during(self, call); twin(self)",
    shell.Shell: "__init__(self, text); store(self); __call__(self, line); answer(self, line)",
}
OPERATORS = {
    schemas.Schema: "getitem contains len eq str iter",
    questions.Question: "or and sub add contains len bool eq str",
    graphs.Graph: "getitem contains len eq str or iter",
    store.Store: "getitem contains len eq str iter",
    shell.Shell: "call",
}
PROPERTIES = {
    schemas.Schema: "kinds labels loops",
    questions.Question: "schema machine firsts",
    graphs.Graph: "schema kinds edges",
    store.Store: "schema graph names",
    shell.Shell: "",
}
CLASS_METHODS = {questions.Question: "read(schema, text); of_words(schema, words); of_machine(schema, machine)"}
CONSTANTS = {
    names: {"MAX_LETTERS": 8},
    schemas: {"MAX_KINDS": 6, "MAX_LABELS": 8},
    words: {"MAX_WORDS": 20000},
    expressions: {"MAX_PARTS": 40, "SORTS": ("kind", "label", "maybe", "or", "plus", "star", "then")},
    questions: {"MAX_STATES": 24},
    graphs: {"MAX_NODES": 2000, "MAX_EDGES": 4000},
    ways: {"READINGS": ("walk", "trail", "simple", "acyclic"), "MAX_WAYS": 20000},
    cuts: {"CONDITIONS": ("edges", "nodes", "rings"), "MAX_CUT": 12},
}


class Document(Case):

    def run_examples(self, text, known):
        asked = doctest.DocTestParser().get_doctest(text, known, "examples", "examples", 0)
        self.assertGreater(len(asked.examples), 0)
        report = []
        doctest.DocTestRunner(verbose=False).run(asked, out=report.append)
        self.assertEqual(report, [])

    def test_examples(self):
        known = {"ONE": ONE, "ROADS": ROADS, "FAR": FAR, "TWICE": TWICE, "FRIENDS": FRIENDS}
        for module in MODULES:
            known.update({name: value for name, value in vars(module).items() if not name.startswith("_")})
        self.run_examples(EXAMPLES, known)

    def test_examples_that_raise(self):
        self.refused(errors.InvalidOperation, ROADS.with_loops, ("lives",))
        self.refused(errors.ParseError, expressions.read, ROADS, "knows (|road)", kept=7)
        self.refused(errors.InvalidGraph, PAIR.with_edge, (0, "b", 0))
        town = store.Store(ROADS)
        for kind in ("person", "person", "city"):
            town.add(kind)
        self.refused(errors.InvalidGraph, town.put, 2, "lives", 1)

    def test_examples_of_the_readme(self):
        path = pathlib.Path(__file__).resolve().parent.parent / "README.md"
        self.run_examples(path.read_text(encoding="utf-8").replace("```", ""), {})

    def test_values_of_the_examples(self):
        # For FAR and FRIENDS all readings agree; for TWICE only "walk", "trail" and "simple" do.
        met = [[conditions.is_met(one, condition) for condition in cuts.CONDITIONS] for one in (FAR, FRIENDS, TWICE)]
        self.same(met, [[True] * 3, [True] * 3, [True, True, False]])
        told = [ways.pairs(TWICE, RING, reading) for reading in ways.READINGS]
        self.same(told, [((0, 0), (1, 1))] * 3 + [()])
        self.same(HOME in FRIENDS, True)

    def test_functions_stand_in_their_files(self):
        for module, listed in FUNCTIONS.items():
            for shape in listed.split("; "):
                function = getattr(module, shape.partition("(")[0])
                self.assertEqual(function.__name__ + str(inspect.signature(function)), shape)
                self.assertEqual(function.__module__, module.__name__)

    def test_methods_stand_in_their_class(self):
        for one, listed in METHODS.items():
            own = vars(one)
            for shape in listed.split("; "):
                name = shape.partition("(")[0]
                self.assertEqual(name + str(inspect.signature(own[name])), shape)
            for name in OPERATORS[one].split():
                self.assertIn(f"__{name}__", own)
            for name in PROPERTIES[one].split():
                self.assertIsInstance(own[name], property)
            self.assertIn(one.__module__, [module.__name__ for module in MODULES])
        for one, listed in CLASS_METHODS.items():
            for shape in listed.split("; "):
                name = shape.partition("(")[0]
                self.assertIsInstance(vars(one)[name], classmethod)
                self.assertEqual(name + str(inspect.signature(getattr(one, name))), shape)

    def test_classes_stand_in_their_files(self):
        self.assertEqual([one.__module__ for one in METHODS], [
            "whichwalks.base.schemas", "whichwalks.ask.questions", "whichwalks.graph.graphs", "whichwalks.desk.store",
            "whichwalks.text.shell",
        ])

    def test_constants(self):
        for module, constants in CONSTANTS.items():
            for name, value in constants.items():
                self.same(getattr(module, name), value)
