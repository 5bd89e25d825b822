"""Ways by the four readings, against plain search through all ways."""
import random

from tests.helpers import (
    FAR, FRIENDS, MIXED, NO_GRAPHS, NO_QUESTIONS, ONE, ROADS, STRANGE, TWICE, Case, some_graph,
)
from tests.reckoning import some_expressions, some_machine
from whichwalks.ask.questions import Question
from whichwalks.errors import (
    InvalidGraph, InvalidNumber, InvalidOperation, InvalidQuestion, TooMany, UnknownName,
)
from whichwalks.graph.graphs import Graph
from whichwalks.graph.ways import MAX_WAYS, READINGS, does_count, is_way, pairs, way, ways, word_of

PAIR = Graph(ONE, ("n", "n"), ((0, "a", 1), (0, "b", 1), (1, "a", 1)))
RING = Graph(ONE, ("n", "n"), ((0, "b", 1), (1, "b", 0)))
EMPTY = Graph(ONE, (), ())
TOWN = Graph(ROADS, ("person", "person", "city"), ((0, "knows", 1), (1, "knows", 0), (1, "lives", 2), (2, "road", 2)))
NO_READINGS = STRANGE + ("Walk", "walks", "edges", "", 0, 1, ("walk",), ["walk"], READINGS, ONE, "walk ", FAR)
NO_SIZES = STRANGE + ("3", -1, 13, (3,), [3], ONE)
NO_WAYS = STRANGE + (
    (), 7, "a", (0, "a"), (0, 1), ("n", "a", "n"), [0, "a", 1], (0, "a", 1, "a"), (0, "b", 1, "b", 1), (1, "a", 0),
    (True,), (0, "a", True), (False, "a", 1), (True, "a", 1), (2,), (-1,), (0, "x", 1), (0, None, 1), (0, ["a"], 1),
    (0, ("a",), 1), ((0, "a", 1),), (0, "a", 2), (0, "a", "1"), ("0",), ([0],), (None,), (0, "a", 1, "c", 1), PAIR,
    (0, {}, 1), (0, "a", 1, "a", True), 0, (10 ** 60,),
)


def plainly_counts(told, reading):
    """What [0.11] says of a way."""
    nodes, edges = told[::2], [told[at:at + 3] for at in range(0, len(told) - 1, 2)]
    if reading == "trail":
        return all(edges.count(edge) == 1 for edge in edges)
    if reading == "simple":
        inner = nodes[:-1] if nodes[0] == nodes[-1] and len(nodes) > 1 else nodes
        return all(inner.count(node) == 1 for node in inner)
    return reading == "walk" or all(nodes.count(node) == 1 for node in nodes)


def plain_ways(graph, reading, size):
    """All ways with at most so many edges that count."""
    told = [(node,) for node in range(len(graph))]
    found = []
    for _ in range(size + 1):
        found += told
        told = [one + edge[1:] for one in told for edge in graph.edges if edge[0] == one[-1]]
        told = [one for one in told if plainly_counts(one, reading)]
    return found


def plain_word(graph, told):
    return tuple(graph.kinds[part] if at % 2 == 0 else part for at, part in enumerate(told))


def plain_pairs(question, graph):
    """The fewest edges of a walk by pairs: plain steps of nodes and states."""
    found = {}
    kinds, firsts, steps, lasts = question.machine
    for start in range(len(graph)):
        places = {(start, state) for state in firsts if kinds[state] == graph.kinds[start]}
        for size in range(len(graph) * len(question) + 1):
            for node, state in places:
                if state in lasts and (start, node) not in found:
                    found[start, node] = size
            places = {
                (edge[2], to) for node, state in places for edge in graph.edges for at, label, to in steps
                if edge[0] == node and at == state and edge[1] == label and kinds[to] == graph.kinds[edge[2]]
            }
    return found


def some_cases(seed, nodes, edges, many):
    """Questions with graphs, both small, for each schema."""
    chooser = random.Random(seed)
    for schema in (ONE, ROADS, MIXED):
        expressions = some_expressions(schema, chooser, 60)
        for _ in range(many):
            graph = some_graph(schema, chooser, chooser.randrange(1, nodes + 1), chooser.randrange(edges + 1))
            machine = some_machine(schema, chooser, 5)
            yield Question(schema, chooser.choice(expressions)), graph
            yield Question.of_machine(schema, machine), graph


def ring_graph(many, label="a"):
    return Graph(ONE, ("n",) * many, tuple(sorted((at, label, (at + 1) % many) for at in range(many))))


def whole_graph(many):
    """The graph with an edge from each node to each node."""
    return Graph(ONE, ("n",) * many, tuple((one, "a", other) for one in range(many) for other in range(many)))


class Single(Case):

    def test_ways_and_words(self):
        for graph in (PAIR, RING, TOWN):
            for told in plain_ways(graph, "walk", 4):
                self.same([is_way(graph, told), is_way(graph, list(told))], [True, False])
                self.same(word_of(graph, told), plain_word(graph, told))
        self.same(is_way(PAIR, (0, "a", 1) + ("a", 1) * 40000), True)
        self.same(len(word_of(PAIR, (0, "a", 1) + ("a", 1) * 40000)), 80003)

    def test_no_ways(self):
        for value in NO_WAYS:
            with self.subTest(value=value):
                self.same([is_way(PAIR, value), is_way(EMPTY, value)], [False, False])
        self.same([is_way(PAIR, (0,)), is_way(EMPTY, (0,))], [True, False])

    def test_near_ways(self):
        for told in plain_ways(PAIR, "walk", 3):
            for at in range(len(told)):
                for part in STRANGE + (0, 1, 2, "a", "b", "c", "n"):
                    value = told[:at] + (part,) + told[at + 1:]
                    is_right = all(edge in PAIR.edges for edge in [value[i:i + 3] for i in range(0, len(value) - 1, 2)])
                    is_right = is_right and all(part.__class__ is int and part in (0, 1) for part in value[::2])
                    self.same(is_way(PAIR, value), is_right)
                self.same(is_way(PAIR, told[:at] + told[at + 1:]), False)

    def test_what_counts_by_hand(self):
        told = (
            # The way without edges, an edge, an edge twice, a node twice, the last node the first one.
            (PAIR, (0,), "walk trail simple acyclic"), (PAIR, (0, "b", 1), "walk trail simple acyclic"),
            (PAIR, (1, "a", 1), "walk trail simple"), (PAIR, (1, "a", 1, "a", 1), "walk"),
            (PAIR, (0, "a", 1, "a", 1), "walk trail"), (PAIR, (0, "a", 1, "a", 1, "a", 1), "walk"),
            (RING, (0, "b", 1, "b", 0), "walk trail simple"), (RING, (0, "b", 1, "b", 0, "b", 1), "walk"),
            (TOWN, (0, "knows", 1, "lives", 2), "walk trail simple acyclic"),
            (TOWN, (0, "knows", 1, "lives", 2, "road", 2), "walk trail"),
            (TOWN, (0, "knows", 1, "knows", 0, "knows", 1, "lives", 2), "walk"),
            (TOWN, (1, "knows", 0, "knows", 1, "lives", 2), "walk trail"),
        )
        for graph, one, readings in told:
            self.same([reading for reading in READINGS if does_count(graph, one, reading)], readings.split())

    def test_what_counts_against_the_definition(self):
        chooser = random.Random(3)
        for schema in (ONE, ROADS, MIXED):
            for many in (1, 2, 3, 4):
                graph = some_graph(schema, chooser, many, 2 * many)
                for told in plain_ways(graph, "walk", 4):
                    counts = [does_count(graph, told, reading) for reading in READINGS]
                    self.same(counts, [plainly_counts(told, reading) for reading in READINGS])
                    # Each reading lets less count than the one ahead of it.
                    self.same(counts, sorted(counts, reverse=True))

    def test_constants(self):
        self.same([READINGS, MAX_WAYS], [("walk", "trail", "simple", "acyclic"), 20000])


class All(Case):

    def test_against_plain_search(self):
        for question, graph in some_cases(1, 4, 7, 12):
            for reading in READINGS:
                for size in (0, 1, 2, 4):
                    told = [one for one in plain_ways(graph, reading, size) if plain_word(graph, one) in question]
                    self.same(ways(question, graph, reading, size), tuple(sorted(told)))

    def test_all_sizes(self):
        question = Question.read(ONE, "(a|b)*")
        for graph in (PAIR, RING, ring_graph(5), EMPTY, Graph(ONE, ("n",), ((0, "a", 0),))):
            for reading in READINGS:
                for size in range(13):
                    self.same(ways(question, graph, reading, size), tuple(sorted(plain_ways(graph, reading, size))))
        self.same(len(ways(FAR, PAIR, "walk", 12)), 26)

    def test_by_hand(self):
        self.same(ways(FAR, PAIR, "acyclic", 5), ((0,), (0, "a", 1), (1,)))
        self.same(ways(TWICE, RING, "simple", 12), ((0, "b", 1, "b", 0), (1, "b", 0, "b", 1)))
        self.same(ways(TWICE, RING, "acyclic", 12), ())
        self.same(ways(FRIENDS, TOWN, "walk", 3), (
            (0, "knows", 1, "lives", 2), (1, "knows", 0, "knows", 1, "lives", 2), (1, "lives", 2),
        ))
        self.same(ways(FRIENDS, TOWN, "simple", 3), ((0, "knows", 1, "lives", 2), (1, "lives", 2)))

    def test_two_edges_with_unlike_labels(self):
        self.same(ways(Question.read(ONE, "a|b"), PAIR, "simple", 1), ((0, "a", 1), (0, "b", 1), (1, "a", 1)))

    def test_wrong_sizes(self):
        for size in NO_SIZES:
            self.refused(InvalidNumber, ways, FAR, PAIR, "walk", size, kept=size)
        self.same(ways(FAR, PAIR, "trail", 12), ways(FAR, PAIR, "trail", 2))

    def test_too_many(self):
        self.same(len(ways(FAR, ring_graph(200), "trail", 12)), 200 * 13)
        self.same(len(ways(FAR, whole_graph(26), "walk", 2)), 26 + 26 ** 2 + 26 ** 3)
        self.refused(TooMany, ways, FAR, whole_graph(27), "walk", 2, kept=20000)
        for reading in READINGS:
            self.refused(TooMany, ways, FAR, whole_graph(27), reading, 12, kept=20000)

    def test_just_so_many(self):
        # From each of both nodes three edges lead on.
        two = Question.read(ONE, "(a|b)*")
        ring = Graph(ONE, ("n", "n"), ((0, "a", 0), (0, "a", 1), (0, "b", 1), (1, "a", 0), (1, "a", 1), (1, "b", 0)))
        many = [2 * 3 ** size for size in range(9)]
        for size in range(8):
            self.same(len(ways(two, ring, "walk", size)), sum(many[:size + 1]))
        self.same(sum(many[:9]), 19682)
        self.same(len(ways(two, ring, "walk", 8)), 19682)
        single = Graph(ONE, ("n",) * 318, ())
        self.same(len(ways(two, ring | single, "walk", 8)), 20000)
        self.refused(TooMany, ways, two, ring | single.with_node("n"), "walk", 8, kept=20000)
        self.refused(TooMany, ways, two, ring, "walk", 9, kept=20000)

    def test_ends_that_no_way_comes_to_in_time(self):
        # Ever so many ways lead on, but only those count that end with the one last edge.
        nodes = 40
        edges = [(one, "a", other) for one in range(nodes) for other in range(nodes) if one != other]
        graph = Graph(ONE, ("n",) * (nodes + 1), tuple(sorted(edges + [(0, "b", nodes)])))
        question = Question.read(ONE, "a* b")
        self.same([len(ways(question, graph, reading, 2)) for reading in READINGS], [40, 40, 40, 40])
        self.same(len(ways(question, graph, "acyclic", 3)), 40 + 39 * 38)
        self.refused(TooMany, ways, question, graph, "acyclic", 12, kept=20000)
        # The ways from node 41 come back to node 0 in vain.
        graph = graph.with_node("n").with_edge((nodes + 1, "b", 0))
        told = [ways(Question.read(ONE, "b a* b"), graph, reading, 12) for reading in ("simple", "acyclic")]
        self.same(told, [((nodes + 1, "b", 0, "b", nodes),)] * 2)


class Pairs(Case):

    def test_against_plain_search(self):
        for question, graph in some_cases(5, 4, 7, 200):
            walks = plain_pairs(question, graph)
            self.same(pairs(question, graph, "walk"), tuple(sorted(walks)))
            wider = set(walks)
            for reading in READINGS[1:]:
                fewest = {}
                for one in plain_ways(graph, reading, 7):
                    if plain_word(graph, one) in question:
                        fewest.setdefault((one[0], one[-1]), len(one))
                self.same(pairs(question, graph, reading), tuple(sorted(fewest)))
                self.assertLessEqual(set(fewest), wider)
                wider = set(fewest)
                for start in range(len(graph)):
                    for end in range(len(graph)):
                        self.told_way(question, graph, reading, (start, end), fewest.get((start, end)))
            for (start, end), size in walks.items():
                self.told_way(question, graph, "walk", (start, end), 2 * size + 1)

    def told_way(self, question, graph, reading, ends, length):
        """The way is as short as any, and counts; None if there is none."""
        told = way(question, graph, reading, *ends)
        if length is None:
            self.same(told, None)
            return
        self.same([is_way(graph, told), plain_word(graph, told) in question], [True, True])
        self.same([plainly_counts(told, reading), (told[0], told[-1]), len(told)], [True, ends, length])

    def test_larger_graphs(self):
        for question, graph in some_cases(6, 6, 11, 60):
            for reading in READINGS[1:]:
                fewest = {}
                for one in plain_ways(graph, reading, 11):
                    if plain_word(graph, one) in question:
                        fewest.setdefault((one[0], one[-1]), len(one))
                self.same(pairs(question, graph, reading), tuple(sorted(fewest)))
                for ends, length in fewest.items():
                    self.told_way(question, graph, reading, ends, length)

    def test_by_hand(self):
        self.same([pairs(FAR, PAIR, "simple"), way(FAR, PAIR, "trail", 1, 0)], [((0, 0), (0, 1), (1, 1)), None])
        self.same([pairs(TWICE, RING, reading) for reading in READINGS], [((0, 0), (1, 1))] * 3 + [()])
        self.same([way(TWICE, RING, "simple", 1, 1), way(TWICE, RING, "acyclic", 1, 1)], [(1, "b", 0, "b", 1), None])
        self.same([pairs(FAR, EMPTY, reading) for reading in READINGS], [()] * 4)
        self.same([pairs(FRIENDS, TOWN, reading) for reading in READINGS], [((0, 2), (1, 2))] * 4)
        self.same(pairs(Question.of_words(ONE, ()), PAIR, "walk"), ())
        # Twice around one edge, for a walk only.
        near = Question.read(ONE, "a a a")
        self.same([pairs(near, PAIR, reading) for reading in READINGS], [((0, 1), (1, 1)), (), (), ()])

    def test_words_with_more_edges_than_count(self):
        # In a whole graph walks go on in ever so many ways, but none of them without a node twice.
        for edges in (8, 9, 10, 11, 12):
            question = Question.read(ONE, " ".join(["a"] * edges))
            whole = whole_graph(10)
            told = [way(question, whole, reading, 0, 1) is not None for reading in READINGS]
            self.same(told, [True, True, edges < 10, edges < 10])
            told = [way(question, whole, reading, 0, 0) is not None for reading in READINGS]
            self.same(told, [True, True, edges < 11, False])
            if edges > 10:
                self.same([ways(question, whole, reading, 12) for reading in ("simple", "acyclic")], [(), ()])

    def test_loops(self):
        # A walk with two loops is as short as one with a loop at each end, but no trail.
        loops = Graph(ONE, ("n", "n"), ((0, "a", 0), (0, "a", 1), (1, "a", 1)))
        self.told_way(Question.read(ONE, "a a a"), loops, "trail", (0, 1), 7)
        self.same(way(Question.read(ONE, "a a a"), loops, "simple", 0, 1), None)
        # By "simple" a way that is back does not go on, not even around again.
        for edges, text, end in (
            (((0, "a", 0), (0, "b", 1)), "a b", 1), (((0, "a", 0), (0, "a", 1)), "a a", 0),
            (((0, "a", 0), (0, "a", 1)), "a a", 1), (((0, "a", 1), (0, "b", 1), (1, "a", 0)), "a a b", 1),
        ):
            graph, question = Graph(ONE, ("n", "n"), edges), Question.read(ONE, text)
            for reading in ("simple", "acyclic"):
                self.same([way(question, graph, reading, 0, end), ways(question, graph, reading, 12)], [None, ()])
                self.same(pairs(question, graph, reading), ())
            self.same((0, end) in pairs(question, graph, "walk"), True)

    def test_many_pairs(self):
        graph = ring_graph(160)
        for reading in READINGS:
            self.same(len(pairs(FAR, graph, reading)), 25600)

    def test_pairs_that_need_another_way_than_the_shortest_walk(self):
        # Around the odd ring a walk of even length leads to each node, but no trail does to each second one.
        even, ring = Question.read(ONE, "(a a)*"), ring_graph(41)
        self.same([len(pairs(even, ring, reading)) for reading in READINGS], [41 * 41] + [41 * 21] * 3)
        self.same(way(even, ring, "trail", 0, 1), None)
        self.same(len(way(even, ring, "walk", 0, 1)) // 2, 42)

    def test_no_way_back_in_a_graph_with_many_rings(self):
        chooser = random.Random(8)
        graph = some_graph(ONE, chooser, 60, 200)
        back = Question.read(ONE, "(a|b)+")
        walks = pairs(back, graph, "walk")
        self.same(pairs(back, graph, "simple"), walks)
        self.same(pairs(back, graph, "acyclic"), tuple(one for one in walks if one[0] != one[1]))

    def test_a_long_way_round(self):
        # By walks the short edge back is used to take the first edge twice; all others have to go round.
        many = 900
        edges = [(0, "a", 1), (1, "b", 0)] + [(at, "b", at + 1) for at in range(1, many - 1)]
        graph = Graph(ONE, ("n",) * (many + 1), tuple(sorted(edges + [(many - 1, "a", many), (0, "b", many)])))
        question = Question.read(ONE, "a b* a b*")
        told = [way(question, graph, reading, 0, 1) for reading in READINGS]
        self.same([told[0], told[1:]], [(0, "a", 1, "b", 0, "a", 1), [None] * 3])
        told = [way(question, graph, reading, 0, many) for reading in READINGS]
        self.same([len(one) // 2 for one in told], [5, 900, 900, 900])
        for reading, one in zip(READINGS, told):
            self.same([does_count(graph, one, reading), word_of(graph, one) in question], [True, True])

    def test_as_many_nodes_as_can_be(self):
        graph = ring_graph(2000, "b")
        question = Question.read(ONE, "b b b")
        for reading in READINGS:
            self.same(pairs(question, graph, reading), tuple((at, (at + 3) % 2000) for at in range(2000)))
            self.same(len(way(Question.read(ONE, "b*"), graph, reading, 0, 1999)) // 2, 1999)


class Wrong(Case):

    def test_first_wrong_argument_decides(self):
        questions, graphs = (InvalidQuestion, NO_QUESTIONS), (InvalidGraph, NO_GRAPHS)
        readings, told = (UnknownName, NO_READINGS), (InvalidOperation, NO_WAYS)
        nodes = (InvalidNumber, STRANGE + (2, -1, "0", (0,), ONE))
        self.first_wrong_decides(is_way, (PAIR, (0,)), (graphs, (None, ())))
        self.first_wrong_decides(word_of, (PAIR, (0,)), (graphs, told))
        self.first_wrong_decides(does_count, (PAIR, (0,), "walk"), (graphs, told, readings))
        self.first_wrong_decides(ways, (FAR, PAIR, "walk", 1), (questions, graphs, readings, (InvalidNumber, NO_SIZES)))
        self.first_wrong_decides(pairs, (FAR, PAIR, "walk"), (questions, graphs, readings))
        nodes = (InvalidNumber, tuple(value for value in nodes[1] if value is not True or len(PAIR) < 2) + (True,))
        self.first_wrong_decides(way, (FAR, PAIR, "walk", 0, 1), (questions, graphs, readings, nodes, nodes))

    def test_unequal_schemas_stand_behind_all_other_errors(self):
        other = Graph(ONE.with_loops(()), ("n", "n"), ())
        for graph in (TOWN, other):
            self.refused(InvalidOperation, ways, FAR, graph, "walk", 1)
            self.refused(InvalidOperation, way, FAR, graph, "walk", 0, 1)
            self.refused(InvalidOperation, pairs, FAR, graph, "walk")
            for reading in NO_READINGS:
                self.refused(UnknownName, ways, FAR, graph, reading, 1, kept=reading)
                self.refused(UnknownName, way, FAR, graph, reading, 0, 1, kept=reading)
                self.refused(UnknownName, pairs, FAR, graph, reading, kept=reading)
            for size in NO_SIZES:
                self.refused(InvalidNumber, ways, FAR, graph, "walk", size, kept=size)
            self.refused(InvalidNumber, way, FAR, graph, "walk", 7, 1, kept=7)
            self.refused(InvalidNumber, way, FAR, graph, "walk", 1, 7, kept=7)

    def test_unequal_schemas_ahead_of_too_many(self):
        whole = whole_graph(27)
        self.refused(InvalidOperation, ways, Question.read(ONE.with_loops(()), "a*"), whole, "walk", 12)
        self.refused(TooMany, ways, FAR, whole, "walk", 12, kept=20000)

    def test_nodes_of_no_graph(self):
        self.refused(InvalidNumber, way, FAR, EMPTY, "walk", 0, 0, kept=0)
