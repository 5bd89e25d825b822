"""Drawings, by gluing the places of the path word for word, and what plain search finds in them."""
import random

from tests.helpers import FULL, HOME, MIXED, NO_SCHEMAS, NO_WORDS, ONE, ROADS, STRANGE, Case
from tests.reckoning import words_up_to
from tests.test_cuts import NO_CONDITIONS, plain_cuts
from tests.test_ways import plain_ways, plain_word
from whichwalks.base.words import words_of
from whichwalks.cut.cuts import CONDITIONS
from whichwalks.cut.drawings import drawn, drawn_of, drawn_way, rest
from whichwalks.errors import InvalidOperation, InvalidSchema, InvalidWord, TooMany, UnknownName
from whichwalks.graph.graphs import Graph, path_graph
from whichwalks.graph.ways import does_count

ALL = (ONE, ONE.with_loops(("a", "b")), ROADS, MIXED, MIXED.with_loops(("go", "up")))
NARROWER = {"edges": "trail", "nodes": "simple", "rings": "acyclic"}
WIDER = {"edges": "walk", "nodes": "trail", "rings": "simple"}
WORD = ("n", "b", "n", "a", "n", "b", "n")


def told_apart(pairs):
    """All tuples of these pairs that are apart."""
    found = [()]
    for pair in sorted(pairs):
        found += [told + (pair,) for told in found if not told or told[-1][1] < pair[0]]
    return found


def glued(word, condition, cuts):
    """The triple (kinds, edges, nodes of the places) of a drawing: places are made one, pair by pair."""
    groups = [{place} for place in range(len(word) // 2 + 1)]

    def glue(one, other):
        first = next(group for group in groups if one in group)
        second = next(group for group in groups if other in group)
        if first is not second:
            groups.remove(second)
            first |= second

    for first, second in cuts:
        glue(first, second)
        if condition == "edges":
            glue(first + 1, second + 1)
    groups = sorted(groups, key=min)
    nodes = [next(at for at, group in enumerate(groups) if place in group) for place in range(len(word) // 2 + 1)]
    kinds = tuple(word[2 * min(group)] for group in groups)
    return kinds, tuple(sorted({(nodes[at], word[2 * at + 1], nodes[at + 1]) for at in range(len(nodes) - 1)})), nodes


def left_by_all(schema, word, condition, cuts):
    """The word that cuts leave together, which are no double edges: the last one is cut first."""
    for pair in cuts[::-1]:
        (word,) = plain_cuts(schema, word, condition)[pair]
    return word


def some_drawings(seed, size, many):
    """Words with tuples of cuts that are apart."""
    chooser = random.Random(seed)
    for schema in ALL:
        words = [word for word in words_up_to(schema, size) if len(word) > 6]
        for word in chooser.sample(words, min(many, len(words))):
            for condition in CONDITIONS:
                for cuts in told_apart(plain_cuts(schema, word, condition)):
                    yield schema, word, condition, cuts


def is_double(condition, cut):
    return condition == "edges" and cut[1] - cut[0] == 1


class Drawn(Case):

    def test_by_hand(self):
        graph, start, end = drawn(ONE, WORD, "edges", (0, 2))
        self.same([graph.kinds, graph.edges, start, end], [("n", "n"), ((0, "b", 1), (1, "a", 0)), 0, 1])
        self.same(drawn(ONE, WORD, "nodes", (1, 2))[0].edges, ((0, "b", 1), (1, "a", 1), (1, "b", 2)))
        graph, start, end = drawn(ONE, ("n", "a", "n", "a", "n"), "edges", (0, 1))
        self.same([graph.kinds, graph.edges, start, end], [("n",), ((0, "a", 0),), 0, 0])
        graph, start, end = drawn(ONE, WORD, "rings", (0, 3))
        self.same([graph.edges, start, end], [((0, "b", 1), (1, "a", 2), (2, "b", 0)), 0, 0])
        graph, start, end = drawn(ONE, WORD, "nodes", (0, 2))
        self.same([graph.edges, start, end], [((0, "b", 1), (0, "b", 2), (1, "a", 0)), 0, 2])

    def test_no_cuts_draw_a_path(self):
        for schema in ALL:
            for word in words_up_to(schema, 3):
                for condition in CONDITIONS:
                    told = (path_graph(schema, word), 0, len(word) // 2)
                    self.assertEqual([drawn(schema, word, condition), drawn_of(schema, word, condition, ())], [told] * 2)
                    self.same(rest(schema, word, condition, ()), word)

    def test_gluing(self):
        counted = {many: 0 for many in range(4)}
        for schema, word, condition, cuts in some_drawings(61, 6, 40):
            counted[len(cuts)] = counted.get(len(cuts), 0) + 1
            kinds, edges, nodes = glued(word, condition, cuts)
            graph, start, end = drawn(schema, word, condition, *cuts)
            self.same([graph.kinds, graph.edges, start, end], [kinds, edges, nodes[0], nodes[-1]])
            self.same(graph.schema == schema, True)
            self.assertEqual(drawn_of(schema, word, condition, cuts), (graph, start, end))
            way = tuple(nodes[at // 2] if at % 2 == 0 else part for at, part in enumerate(word))
            self.same(drawn_way(schema, word, condition, cuts), way)
            self.same([plain_word(graph, way), does_count(graph, way, "walk")], [word, True])
        self.assertTrue(all(counted[many] > 20 for many in (0, 1, 2, 3)), counted)

    def test_graphs_are_right(self):
        for schema, word, condition, cuts in some_drawings(62, 5, 20):
            graph = drawn_of(schema, word, condition, cuts)[0]
            self.assertEqual(Graph(schema, graph.kinds, graph.edges), graph)

    def test_one_edge_told_twice(self):
        # Three cuts whose edges lie between one pair of nodes: the path goes round and round on two edges.
        word = ("n", "b", "n", "a", "n", "b", "n", "b", "n", "a", "n", "b", "n")
        graph, start, end = drawn(ONE, word, "edges", (0, 2), (3, 5))
        self.same([graph.edges, start, end], [((0, "b", 1), (1, "a", 0), (1, "b", 2), (2, "a", 1)), 0, 2])
        loops = ("n",) + ("a", "n") * 6
        graph, start, end = drawn(ONE, loops, "edges", (0, 1), (2, 3), (4, 5))
        self.same([graph.edges, start, end], [((0, "a", 0),), 0, 0])
        graph, start, end = drawn(ONE, loops, "edges", (0, 2), (3, 4))
        self.same([graph.edges, start, end], [((0, "a", 1), (1, "a", 0), (1, "a", 1), (1, "a", 2)), 0, 2])
        self.same(drawn_way(ONE, loops, "edges", ((0, 2), (3, 4))), (0, "a", 1, "a", 0, "a", 1, "a", 1, "a", 1, "a", 2))

    def test_two_thousand_nodes(self):
        word = ("n",) + ("b", "n") * 2000
        graph, start, end = drawn(ONE, word, "nodes", (0, 2))
        self.same([len(graph), len(graph.edges), start, end], [2000, 2000, 0, 1999])
        self.same([len(drawn(ONE, word, "rings", (0, 2000))[0]), len(drawn(ONE, word[:-2], "nodes")[0])], [2000, 2000])
        self.same(len(drawn(ONE, word, "edges", (5, 1999))[0].edges), 1999)
        self.refused(TooMany, drawn, ONE, word, "nodes", kept=2000)
        self.refused(TooMany, drawn_of, ONE, word, "rings", (), kept=2000)
        longer = word + ("b", "n")
        self.refused(TooMany, drawn_of, ONE, longer, "nodes", ((3, 6),), kept=2000)
        self.same(len(drawn_of(ONE, longer, "nodes", ((3, 6), (7, 9)))[0]), 2000)
        # The way and the rest of the word have no such limit.
        self.same(len(drawn_way(ONE, longer, "nodes", ((3, 6),))), 4003)
        self.same(rest(ONE, longer, "nodes", ((3, 6),)), longer[:-6])
        # What is no cut is told first.
        self.refused(InvalidOperation, drawn_of, ONE, longer, "nodes", ((3, 4),))

    def test_many_cuts_of_long_words(self):
        word = ("n",) + ("a", "n") * 30000
        cuts = tuple((at, at + 1) for at in range(0, 30000, 2))
        graph, start, end = drawn_of(ONE, word, "edges", cuts)
        self.same([graph.edges, start, end], [((0, "a", 0),), 0, 0])
        self.same(len(rest(ONE, word, "nodes", cuts)) // 2, 15000)

    def test_more_edges_than_a_graph_has(self):
        # At each of many nodes seven labels loop, so there are eight edges for each node.
        word, cuts = ("a",), ()
        for _ in range(600):
            for label in FULL.labels[1:]:
                cuts += ((len(word) // 2, len(word) // 2 + 1),)
                word += (label, "a") * 2
            word += ("la", "a")
        self.refused(TooMany, drawn_of, FULL, word, "edges", cuts, kept=4000)
        graph = drawn_of(FULL, word[:2 * 15 * 499 + 1], "edges", cuts[:7 * 499])[0]
        self.same([len(graph), len(graph.edges)], [500, 499 * 8])


class Search(Case):

    def test_ways_that_are_left(self):
        counted = {"one": 0, "many": 0, "double": 0}
        for schema, word, condition, cuts in some_drawings(63, 5, 25):
            if not cuts:
                continue
            graph, start, end = drawn_of(schema, word, condition, cuts)
            ways = [one for one in plain_ways(graph, NARROWER[condition], len(graph.edges))
                    if one[0] == start and one[-1] == end]
            if not any(is_double(condition, cut) for cut in cuts):
                counted["one" if len(cuts) == 1 else "many"] += 1
                self.same([plain_word(graph, one) for one in ways], [left_by_all(schema, word, condition, cuts)])
                self.same(rest(schema, word, condition, cuts), left_by_all(schema, word, condition, cuts))
            elif len(cuts) == 1:
                counted["double"] += 1
                words = sorted(plain_cuts(schema, word, condition)[cuts[0]])
                self.same(sorted(plain_word(graph, one) for one in ways), words)
        self.assertTrue(all(many > 20 for many in counted.values()), counted)

    def test_the_whole_way_counts_by_the_wider_reading(self):
        for schema, word, condition, cuts in some_drawings(64, 5, 25):
            graph = drawn_of(schema, word, condition, cuts)[0]
            way = drawn_way(schema, word, condition, cuts)
            self.same(does_count(graph, way, WIDER[condition]), True)
            self.same(does_count(graph, way, NARROWER[condition]), not cuts)


class Rest(Case):

    def test_by_hand(self):
        self.same(rest(ONE, WORD, "edges", ((0, 2),)), ("n", "b", "n"))
        self.same(rest(ONE, WORD, "nodes", ((0, 2),)), ("n", "b", "n"))
        self.same(rest(ONE, WORD, "rings", ((0, 3),)), ("n",))
        loops = ("n",) + ("a", "n") * 5
        self.same(rest(ONE, loops, "nodes", ((0, 1), (2, 3), (4, 5))), loops[:5])
        self.same(rest(ONE, loops, "edges", ((0, 2),)), loops[:7])
        self.same(rest(ROADS, HOME, "nodes", ()), HOME)

    def test_double_edges(self):
        loops = ("n",) + ("a", "n") * 6
        for cuts in (((0, 1),), ((0, 2), (3, 4)), ((0, 1), (2, 4)), ((0, 1), (2, 3))):
            self.refused(InvalidOperation, rest, ONE, loops, "edges", cuts)
            self.same(drawn_way(ONE, loops, "edges", cuts)[0], 0)
        self.same(rest(ONE, loops, "edges", ((0, 2), (3, 5))), loops[:5])
        # Of the same numbers one condition tells a double edge, and another one a ring.
        self.same(rest(ONE, loops, "nodes", ((0, 1),)), loops[:11])


class Wrong(Case):

    def test_no_cuts(self):
        loops = ("n",) + ("a", "n") * 4
        wrong = {
            "edges": (((0, 3), (2, 3)), ((2, 3), (0, 1)), ((0, 1), (1, 2)), ((0, 1), (0, 1)), ((0, 4),), ((1, 0),),
                      ((1, 1),), ((-1, 1),), ((0, 1), (1, 3)), ((0, 2), (2, 3)), ((0, True),), ((False, 1),)),
            "nodes": (((0, 4),), ((0, 2), (2, 3)), ((1, 2), (0, 1)), ((0, 1), (0, 2)), ((0, 1), (1, 2)), ((2, 1),),
                      ((0, 5),), ((0, 0),), ((0, True),), ((False, 2),), ((0, 3), (1, 2))),
            "rings": (((0, 3),), ((1, 4),), ((4, 0),), ((0, 4), (0, 4)), ((False, 4),), ((0, 1), (2, 4)), ((0, 5),)),
        }
        forms = STRANGE + ([(0, 1)], ([0, 1],), ((0, 1, 2),), ((0,),), (0, 1), ("01",), ((0, "1"),), ((0, None),), (ONE,))
        for condition in CONDITIONS:
            for cuts in wrong[condition] + forms:
                for call in (drawn_of, drawn_way, rest):
                    with self.subTest(condition=condition, cuts=cuts):
                        self.refused(InvalidOperation, call, ONE, loops, condition, cuts)
            for cuts in wrong[condition]:
                self.refused(InvalidOperation, drawn, ONE, loops, condition, *cuts)
            for value in STRANGE + (7, "01", (0,), (0, 1, 2), [0, 1], ((0, 1),)):
                # One of the strange values is a pair of numbers.
                if value != (1, 2):
                    self.refused(InvalidOperation, drawn, ONE, loops, condition, value)

    def test_cuts_of_other_conditions(self):
        # A ring between places with one kind, but not at equal edges; an edge cut that takes no places of its own.
        word = ("n", "b", "n", "a", "n", "a", "n", "b", "n")
        self.same(rest(ONE, word, "nodes", ((1, 2),)), ("n", "b", "n", "a", "n", "b", "n"))
        self.refused(InvalidOperation, rest, ONE, word, "edges", ((0, 2),))
        self.refused(InvalidOperation, rest, ONE, word, "nodes", ((0, 1),))
        self.same(rest(ONE, word, "edges", ((0, 3),)), ("n", "b", "n"))
        self.refused(InvalidOperation, rest, ONE, word, "nodes", ((0, 4),))
        self.same(rest(ONE, word, "rings", ((0, 4),)), ("n",))
        # A label that cannot loop has no double edges, and no rings with one edge.
        self.refused(InvalidOperation, drawn, ONE.with_loops(()), word, "edges", (1, 2))
        self.refused(InvalidOperation, drawn, ONE.with_loops(()), word, "nodes", (1, 2))
        self.same(drawn(ONE, word, "edges", (1, 2))[0].edges, ((0, "b", 1), (1, "a", 1), (1, "b", 2)))

    def test_first_wrong_argument_decides(self):
        wrong = ((InvalidSchema, NO_SCHEMAS[:12]), (InvalidWord, NO_WORDS[:20] + (HOME,)), (UnknownName, NO_CONDITIONS))
        cuts = (InvalidOperation, (None, [], (7,), ((0, 1),)))
        for call in (drawn_of, drawn_way, rest):
            self.first_wrong_decides(call, (ONE, WORD, "nodes", ((1, 2),)), wrong + (cuts,))
        self.first_wrong_decides(drawn, (ONE, WORD, "nodes", (1, 2)), wrong + ((InvalidOperation, (None, [], (0, 1))),))

    def test_every_word_has_its_drawing(self):
        for word in words_of(MIXED, 4)[::7]:
            self.same(rest(MIXED, word, "rings", ()), word)
