"""Graphs: what is one, what it tells, and what is made of it."""
import random

from tests.helpers import (
    FAR, HOME, MIXED, NO_GRAPHS, NO_SCHEMAS, NO_WORDS, ONE, ROADS, STRANGE, Case, some_graph,
)
from whichwalks.base.words import edges_of, words_of
from whichwalks.errors import (
    InvalidGraph, InvalidNumber, InvalidOperation, InvalidSchema, InvalidWord, Missing, TooMany, UnknownName,
)
from whichwalks.graph.graphs import MAX_EDGES, MAX_NODES, Graph, path_graph

PAIR = Graph(ONE, ("n", "n"), ((0, "a", 1), (0, "b", 1), (1, "a", 1)))
TOWN = Graph(ROADS, ("city", "person", "city"), ((0, "road", 0), (0, "road", 2), (1, "lives", 0), (1, "lives", 2)))
EMPTY = Graph(ONE, (), ())
NO_EDGES = STRANGE + (
    (), 7, "a", (0, "a"), (0, "a", 1, 1), ("a", 0, 1), [0, "a", 1], (0, "x", 1), (0, "n", 1), (2, "a", 0), (0, "a", 2),
    (-1, "a", 0), (0, "a", -1), (True, "a", 0), (0, "a", True), (False, "a", 1), (0, None, 1), (0, ["a"], 1),
    (0, ("a",), 1), ("0", "a", 1), (0, "a", "1"), (None, "a", 1), ((0,), "a", 1), (0, "b", 0), (1, "b", 1), ONE, FAR,
    (10 ** 60, "a", 0), (0, 1, 1), ((0, "a", 1),), (0, "a", PAIR), (0, PAIR, 0), (0, {}, 1),
)


def content(graph):
    return graph.kinds, graph.edges


def many_edges(many):
    """So many edges between nodes 0 to 1999, ascending."""
    return tuple(sorted([(at, "b", (at + 1) % 2000) for at in range(2000)] + [(at, "a", at) for at in range(2000)] + [
        (0, "a", at) for at in range(1, 20)
    ])[:many])


class Made(Case):

    def refused_edges(self, edges, graph=PAIR):
        with self.subTest(edges=edges):
            self.refused(InvalidGraph, Graph, graph.schema, graph.kinds, edges)

    def test_graphs_by_hand(self):
        for schema, kinds, edges in (
            (ONE, (), ()), (ONE, ("n",), ()), (ONE, ("n",), ((0, "a", 0),)), (ROADS, ("city",) * 3, ((2, "road", 2),)),
            (ROADS, ("person", "city"), ((0, "lives", 1), (1, "road", 1))), (MIXED, ("k", "m", "s"), ((2, "up", 0),)),
            (ONE, ("n", "n"), ((0, "a", 0), (0, "a", 1), (0, "b", 1), (1, "a", 0), (1, "a", 1), (1, "b", 0))),
        ):
            graph = Graph(schema, kinds, edges)
            self.same([graph.schema == schema, graph.kinds, graph.edges], [True, kinds, edges])

    def test_kinds(self):
        for kinds in STRANGE + (
            "n", ["n"], ("a",), ("n", "m"), ("n", None), ("n", ("n",)), ("n", ["n"]), {"n": True}, 7, (1,), ONE, PAIR,
        ):
            with self.subTest(kinds=kinds):
                self.refused(InvalidGraph, Graph, ONE, kinds, ())
                self.refused(InvalidGraph, Graph, ONE, kinds, ((0, "a", 0),))

    def test_edges_that_are_none(self):
        for edge in NO_EDGES:
            self.refused_edges((edge,))
            self.refused_edges(((0, "a", 1), edge))
            self.refused_edges((edge, (0, "b", 1)))

    def test_edges_that_are_no_tuple(self):
        for edges in STRANGE + ([(0, "a", 1)], {(0, "a", 1): True}, (0, "a", 1), "a", 7, PAIR, ONE):
            self.refused_edges(edges)

    def test_edges_ascend(self):
        self.refused_edges(((0, "b", 1), (0, "a", 1)))
        self.refused_edges(((0, "a", 1), (0, "a", 0)))
        self.refused_edges(((1, "a", 0), (0, "a", 1)))
        self.refused_edges(((0, "a", 1), (0, "a", 1)))
        self.same(Graph(ONE, ("n", "n"), ((0, "a", 0), (0, "a", 1), (0, "b", 1), (1, "a", 0))).edges[3], (1, "a", 0))

    def test_labels_fit(self):
        for edge in (
            (0, "road", 1), (1, "road", 0), (0, "lives", 1), (0, "lives", 2), (0, "knows", 2), (1, "knows", 0),
            (1, "knows", 1),
        ):
            self.refused_edges((edge,), TOWN)
        for edge in ((0, "road", 0), (2, "road", 0), (1, "lives", 0), (1, "lives", 2)):
            self.same(Graph(ROADS, TOWN.kinds, (edge,)).edges, (edge,))

    def test_loops(self):
        self.refused_edges(((0, "b", 0),))
        self.same(Graph(ONE, ("n",), ((0, "a", 0),)).edges, ((0, "a", 0),))
        self.refused(InvalidGraph, Graph, ONE.with_loops(()), ("n",), ((0, "a", 0),))
        self.same(Graph(ONE.with_loops(("b",)), ("n",), ((0, "b", 0),)).edges, ((0, "b", 0),))

    def test_numbers_of_nodes(self):
        self.same(len(Graph(ONE, ("n",) * MAX_NODES, ())), 2000)
        self.refused(InvalidGraph, Graph, ONE, ("n",) * 2001, ())

    def test_numbers_of_edges(self):
        graph = Graph(ONE, ("n",) * 2000, many_edges(MAX_EDGES))
        self.same([len(graph.edges), str(graph)], [4000, "graph of 2000 nodes, 4000 edges"])
        self.refused(InvalidGraph, Graph, ONE, ("n",) * 2000, many_edges(4001))

    def test_no_way_around_the_checks(self):
        for value in (PAIR, PAIR.edges[0], list(PAIR.edges)):
            self.refused(InvalidGraph, Graph, ONE, ("n", "n"), value)


class Told(Case):

    def test_edges_of_nodes(self):
        chooser = random.Random(1)
        for schema in (ONE, ROADS, MIXED):
            for many in (1, 2, 5, 30):
                graph = some_graph(schema, chooser, many, 3 * many)
                for node in range(many):
                    self.same(graph[node], tuple(edge for edge in graph.edges if edge[0] == node))
        self.same([PAIR[0], PAIR[1]], [((0, "a", 1), (0, "b", 1)), ((1, "a", 1),)])
        for value in STRANGE + (2, -1, "0", (0,), slice(0, 1), ONE, PAIR):
            if value is not False:
                self.refused(InvalidNumber, lambda: PAIR[value], kept=value)
        self.refused(InvalidNumber, lambda: PAIR[False], kept=False)
        self.refused(InvalidNumber, lambda: PAIR[True], kept=True)
        self.refused(InvalidNumber, lambda: EMPTY[0], kept=0)

    def test_contained(self):
        chooser = random.Random(2)
        for schema in (ONE, ROADS, MIXED):
            graph = some_graph(schema, chooser, 6, 14)
            for source in range(-1, 8):
                for label in schema.labels + ("x", schema.kinds[0]):
                    for target in range(-1, 8):
                        edge = (source, label, target)
                        self.same([edge in graph, list(edge) in graph], [edge in graph.edges, False])
        for value in NO_EDGES + ((1, "b", 0), (1, "a", True), (True, "a", 1), (True, "a", True)):
            self.same([value in PAIR, value in EMPTY], [False, False])
        self.same([(1, "a", 1) in PAIR, (True, "a", 1) in PAIR, (1, "a", True) in PAIR], [True, False, False])

    def test_lengths_and_texts(self):
        self.same([len(EMPTY), len(PAIR), len(TOWN)], [0, 2, 3])
        self.same([str(EMPTY), str(PAIR), str(TOWN)], [
            "graph of 0 nodes, 0 edges", "graph of 2 nodes, 3 edges", "graph of 3 nodes, 4 edges",
        ])

    def test_properties_stay(self):
        for name in ("schema", "kinds", "edges"):
            with self.assertRaises(AttributeError):
                setattr(PAIR, name, ())

    def test_equality(self):
        again = Graph(ONE, ("n", "n"), ((0, "a", 1), (0, "b", 1), (1, "a", 1)))
        self.same([PAIR == again, PAIR != again, EMPTY == Graph(ONE, (), ())], [True, False, True])
        others = (
            EMPTY, Graph(ONE, ("n",) * 3, PAIR.edges), Graph(ONE, ("n", "n"), PAIR.edges[:2]), TOWN,
            Graph(ONE.with_loops(("a", "b")), ("n", "n"), PAIR.edges), Graph(ROADS, (), ()),
        )
        for value in STRANGE + others + (7, content(PAIR), PAIR.edges, FAR, ONE):
            self.same([PAIR == value, PAIR != value, value == PAIR, value != PAIR], [False, True, False, True])
        self.same(EMPTY == Graph(ROADS, (), ()), False)

    def test_no_iteration(self):
        for graph in (PAIR, EMPTY):
            for call in (iter, list, tuple, sorted, set, enumerate, lambda one: [*one]):
                with self.assertRaises(TypeError):
                    call(graph)


class Edited(Case):

    def setUp(self):
        self.before = [content(graph) for graph in (PAIR, TOWN, EMPTY)]

    def tearDown(self):
        self.same([content(graph) for graph in (PAIR, TOWN, EMPTY)], self.before)

    def test_with_node(self):
        self.same(content(PAIR.with_node("n")), (("n", "n", "n"), PAIR.edges))
        self.same(content(EMPTY.with_node("n")), (("n",), ()))
        self.same(content(TOWN.with_node("person")), (TOWN.kinds + ("person",), TOWN.edges))
        for kind in STRANGE + ("town", "road", 7, ("city",), ["city"], ROADS, TOWN):
            self.refused(UnknownName, TOWN.with_node, kind, kept=kind)
        full = Graph(ONE, ("n",) * 1999, ()).with_node("n")
        self.refused(TooMany, full.with_node, "n", kept=2000)
        self.refused(UnknownName, full.with_node, "m", kept="m")
        self.same(len(full), 2000)

    def test_with_edge(self):
        every = [(source, label, target) for source in (0, 1) for label in ("a", "b") for target in (0, 1)]
        for edge in every:
            if edge in PAIR.edges or (edge[1] == "b" and edge[0] == edge[2]):
                self.refused(InvalidGraph, PAIR.with_edge, edge)
            else:
                self.same(content(PAIR.with_edge(edge)), (PAIR.kinds, tuple(sorted(PAIR.edges + (edge,)))))
        for edge in NO_EDGES:
            with self.subTest(edge=edge):
                self.refused(InvalidGraph, PAIR.with_edge, edge)
        self.refused(InvalidGraph, TOWN.with_edge, (0, "lives", 1))
        self.refused(InvalidGraph, EMPTY.with_edge, (0, "a", 0))

    def test_with_edge_up_to_the_limit(self):
        full = Graph(ONE, ("n",) * 2000, many_edges(3999)).with_edge((7, "a", 9))
        self.same(len(full.edges), 4000)
        self.refused(TooMany, full.with_edge, (7, "a", 10), kept=4000)
        self.refused(InvalidGraph, full.with_edge, (7, "a", 9))
        self.refused(InvalidGraph, full.with_edge, (7, "b", 7))
        self.same(full.without_edge((7, "a", 9)).with_edge((7, "a", 10)).edges, tuple(sorted(
            many_edges(3999) + ((7, "a", 10),)
        )))

    def test_without_edge(self):
        for at, edge in enumerate(PAIR.edges):
            self.same(content(PAIR.without_edge(edge)), (PAIR.kinds, PAIR.edges[:at] + PAIR.edges[at + 1:]))
        for edge in NO_EDGES + ((1, "b", 0), (0, "a", 0), (1, "a", True)):
            with self.subTest(edge=edge):
                self.refused(Missing, PAIR.without_edge, edge, kept=edge)
                self.refused(Missing, EMPTY.without_edge, edge, kept=edge)

    def test_edited_again_and_again(self):
        chooser = random.Random(5)
        for schema in (ONE, ROADS, MIXED):
            graph, kinds, edges = Graph(schema, (), ()), [], set()
            for _ in range(300):
                if not kinds or chooser.random() < 0.1:
                    kind = chooser.choice(schema.kinds)
                    kinds.append(kind)
                    graph = graph.with_node(kind)
                edge = (chooser.randrange(len(kinds)), chooser.choice(schema.labels), chooser.randrange(len(kinds)))
                if edge in edges:
                    self.refused(InvalidGraph, graph.with_edge, edge)
                    edges.discard(edge)
                    graph = graph.without_edge(edge)
                elif schema.fits(kinds[edge[0]], edge[1], kinds[edge[2]]) and (
                    edge[0] != edge[2] or edge[1] in schema.loops
                ):
                    self.refused(Missing, graph.without_edge, edge, kept=edge)
                    edges.add(edge)
                    graph = graph.with_edge(edge)
                else:
                    self.refused(InvalidGraph, graph.with_edge, edge)
                self.same(content(graph), (tuple(kinds), tuple(sorted(edges))))
                self.same(graph == Graph(schema, tuple(kinds), tuple(sorted(edges))), True)

    def test_turned(self):
        self.same(PAIR.turned().edges, ((1, "a", 0), (1, "a", 1), (1, "b", 0)))
        chooser = random.Random(6)
        for schema in (ONE, ROADS, MIXED):
            graph = some_graph(schema, chooser, 7, 16)
            back = graph.turned()
            self.same([back.schema == schema.turned(), back.kinds == graph.kinds], [True, True])
            self.same(back.edges, tuple(sorted(edge[::-1] for edge in graph.edges)))
            self.same(back.turned() == graph, True)
            self.same(back == Graph(schema.turned(), graph.kinds, back.edges), True)

    def test_side_by_side(self):
        self.same(content(PAIR | PAIR), (("n",) * 4, PAIR.edges + ((2, "a", 3), (2, "b", 3), (3, "a", 3))))
        self.same([PAIR | EMPTY == PAIR, EMPTY | PAIR == PAIR, EMPTY | EMPTY == EMPTY], [True, True, True])
        chooser = random.Random(7)
        for schema in (ONE, ROADS, MIXED):
            one, other = some_graph(schema, chooser, 4, 7), some_graph(schema, chooser, 5, 9)
            moved = tuple((source + 4, label, target + 4) for source, label, target in other.edges)
            self.same(content(one | other), (one.kinds + other.kinds, one.edges + moved))
            self.same((one | other) == Graph(schema, one.kinds + other.kinds, one.edges + moved), True)

    def test_side_by_side_up_to_the_limits(self):
        half = Graph(ONE, ("n",) * 1000, ())
        self.same(len(half | half), 2000)
        self.refused(TooMany, lambda: half.with_node("n") | half, kept=2000)
        self.refused(TooMany, lambda: half | half.with_node("n"), kept=2000)
        rows = tuple(sorted((source, "a", target) for source in range(45) for target in range(45))[:2000])
        dense = Graph(ONE, ("n",) * 45, rows)
        self.same(len((dense | dense).edges), 4000)
        self.refused(TooMany, lambda: dense | dense | Graph(ONE, ("n",), ((0, "a", 0),)), kept=4000)
        self.refused(TooMany, lambda: Graph(ONE, ("n",) * 1990, ()) | dense | dense, kept=2000)

    def test_other_operands(self):
        for value in NO_GRAPHS + (TOWN, FAR, Graph(ONE.with_loops(()), (), ())):
            self.refused(InvalidOperation, lambda: PAIR | value)
        for value in NO_GRAPHS + (FAR,):
            self.refused(InvalidOperation, lambda: value | PAIR)

    def test_path_graph(self):
        self.same(content(path_graph(ROADS, HOME)), (("person", "person", "city"), ((0, "knows", 1), (1, "lives", 2))))
        self.same(content(path_graph(ONE, ("n",))), (("n",), ()))
        for schema in (ONE, ROADS, MIXED):
            for size in range(4):
                for word in words_of(schema, size):
                    graph = path_graph(schema, word)
                    edges = tuple((at, edge[1], at + 1) for at, edge in enumerate(edges_of(schema, word)))
                    self.same(graph == Graph(schema, word[::2], edges), True)
        long = ("n",) + ("b", "n") * 1999
        self.same(str(path_graph(ONE, long)), "graph of 2000 nodes, 1999 edges")
        self.refused(TooMany, path_graph, ONE, long + ("a", "n"), kept=2000)
        self.refused(InvalidWord, path_graph, ONE, long + ("a",))


class Wrong(Case):

    def test_first_wrong_argument_decides(self):
        schemas = (InvalidSchema, NO_SCHEMAS)
        kinds = (InvalidGraph, ("n", ["n"], ("m",), None, 7, ONE, ("n",) * 2001))
        edges = (InvalidGraph, ([], None, 7, ((0, "b", 0),), ((0, "a", 1), (0, "a", 0)), PAIR))
        self.first_wrong_decides(Graph, (ONE, ("n", "n"), ((0, "a", 1),)), (schemas, kinds, edges))
        self.first_wrong_decides(path_graph, (ONE, ("n",)), (schemas, (InvalidWord, NO_WORDS + (HOME,))))
