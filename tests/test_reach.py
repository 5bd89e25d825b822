"""What walks reach, and walk papers of both forms."""
import random

from tests.helpers import FAR, FRIENDS, NO_GRAPHS, NO_QUESTIONS, ONE, STRANGE, TWICE, Case, some_graph
from tests.test_ways import EMPTY, PAIR, RING, TOWN, plain_pairs, ring_graph, some_cases
from whichwalks.ask.questions import Question
from whichwalks.errors import InvalidGraph, InvalidNumber, InvalidOperation, InvalidQuestion
from whichwalks.graph.graphs import Graph
from whichwalks.graph.reach import is_walk_paper, reached, walk_paper
from whichwalks.graph.ways import is_way, word_of


def plain_steps(question, graph):
    """For each place the places behind it: plain steps of a node and a state together."""
    kinds, _, steps, _ = question.machine
    places = [(x, q) for x in range(len(graph)) for q in range(len(question)) if graph.kinds[x] == kinds[q]]
    return {
        (x, q): [
            (y, to) for source, label, y in graph.edges for at, name, to in steps
            if (source, at, name) == (x, q, label) and kinds[to] == graph.kinds[y]
        ]
        for x, q in places
    }


def plainly_reached(question, graph, start):
    steps = plain_steps(question, graph)
    found = {(start, q) for q in question.machine[1] if question.machine[0][q] == graph.kinds[start]}
    while True:
        more = found | {behind for place in found for behind in steps[place]}
        if more == found:
            return tuple(sorted(found))
        found = more


def plainly_a_table(question, graph, start, end, table):
    """What [9.1] says of an ascending tuple of places."""
    steps = plain_steps(question, graph)
    firsts = [(start, q) for q in question.machine[1] if question.machine[0][q] == graph.kinds[start]]
    if not all(place in table for place in firsts):
        return False
    if any(x == end and q in question.machine[3] for x, q in table):
        return False
    return all(behind in table for place in table for behind in steps[place])


class Reached(Case):

    def test_by_hand(self):
        self.same(reached(TWICE, RING, 0), ((0, 0), (0, 2), (1, 1)))
        self.same([reached(FAR, PAIR, 0), reached(FAR, PAIR, 1)], [((0, 0), (1, 0)), ((1, 0),)])
        self.same(reached(FRIENDS, TOWN, 0), ((0, 0), (1, 0), (2, 1)))
        self.same([reached(FRIENDS, TOWN, 2), reached(Question.of_words(ONE, ()), PAIR, 0)], [(), ()])

    def test_against_plain_steps(self):
        for question, graph in some_cases(21, 5, 10, 30):
            for start in range(len(graph)):
                self.same(reached(question, graph, start), plainly_reached(question, graph, start))

    def test_a_large_graph(self):
        graph = ring_graph(2000)
        self.same(reached(FAR, graph, 7), tuple((node, 0) for node in range(2000)))
        self.same(len(reached(Question.read(ONE, "(a a a)*"), graph, 0)), 6000)


class Papers(Case):

    def test_the_told_paper_is_right(self):
        for question, graph in some_cases(22, 5, 10, 30):
            walks = plain_pairs(question, graph)
            for start in range(len(graph)):
                for end in range(len(graph)):
                    form, told = paper = walk_paper(question, graph, start, end)
                    self.same(is_walk_paper(question, graph, start, end, paper), True)
                    self.same(form, "way" if (start, end) in walks else "none")
                    if form == "way":
                        self.same([is_way(graph, told), word_of(graph, told) in question], [True, True])
                        self.same([told[0], told[-1], len(told) // 2], [start, end, walks[start, end]])
                    else:
                        self.same(plainly_a_table(question, graph, start, end, told), True)

    def test_by_hand(self):
        self.same(walk_paper(TWICE, RING, 0, 0), ("way", (0, "b", 1, "b", 0)))
        self.same(walk_paper(FAR, PAIR, 1, 0), ("none", ((1, 0),)))
        self.same([walk_paper(FAR, PAIR, 0, 0), walk_paper(FRIENDS, TOWN, 2, 2)], [("way", (0,)), ("none", ())])
        self.same(len(walk_paper(FAR, ring_graph(1001), 0, 1000)[1]) // 2, 1000)

    def test_one_form_only(self):
        for question, graph in some_cases(23, 3, 5, 12):
            steps = plain_steps(question, graph)
            walks = plain_pairs(question, graph)
            places = sorted(steps)
            if len(places) > 7:
                continue
            for bits in range(2 ** len(places)):
                table = tuple(place for at, place in enumerate(places) if bits & 2 ** at)
                for start in range(len(graph)):
                    for end in range(len(graph)):
                        told = is_walk_paper(question, graph, start, end, ("none", table))
                        self.same(told, plainly_a_table(question, graph, start, end, table))
                        self.assertFalse(told and (start, end) in walks)

    def test_tables_with_more_pairs(self):
        for question, graph in some_cases(24, 4, 6, 20):
            places = sorted(plain_steps(question, graph))
            for end in range(len(graph)):
                form, table = walk_paper(question, graph, 0, end)
                if form == "none":
                    near = [tuple(sorted(set(table + (place,)))) for place in places]
                    near += [table[:at] + table[at + 1:] for at in range(len(table))] + [tuple(places)]
                    for told in near:
                        wanted = plainly_a_table(question, graph, 0, end, told)
                        self.same(is_walk_paper(question, graph, 0, end, ("none", told)), wanted)

    def test_clauses_of_tables(self):
        path = Graph(ONE, ("n",) * 4, ((0, "b", 1), (1, "b", 2), (2, "a", 3)))
        right = ((0, 0), (1, 1), (2, 2))
        self.same([walk_paper(TWICE, path, 0, 3), reached(TWICE, path, 0)], [("none", right), right])
        wrong = (
            # Without the first pair, without a pair behind one, with the end and a last state, out of order, twice.
            right[1:], right[:2], right[:1], right[::2], (), right + ((3, 2),), right[::-1], right + right[-1:],
            # Nodes and states that are none, truths, lists, other values.
            right + ((3, 3),), right + ((4, 0),), ((-1, 0),) + right, ((0, -1),) + right, ((False, 0),) + right[1:],
            ((0, False),) + right[1:], (right[0], (True, 1), right[2]), (right[0], (1, True), right[2]),
            (right[0], [1, 1], right[2]), list(right), right + ((3,),), right + ((3, 0, 0),), right + (3,), 7, None,
            right + (("3", 0),), {place: True for place in right}, right + ((3, None),), right + ((3, (0,)),),
        )
        self.same(is_walk_paper(TWICE, path, 0, 3, ("none", right)), True)
        for more in ((3, 0), (3, 1)):
            self.same(is_walk_paper(TWICE, path, 0, 3, ("none", right + (more,))), True)
        for table in wrong:
            with self.subTest(table=table):
                self.same(is_walk_paper(TWICE, path, 0, 3, ("none", table)), False)
        # Pairs of a node and a state of another kind.
        self.same(is_walk_paper(FRIENDS, TOWN, 2, 2, ("none", ((2, 0),))), False)
        self.same(is_walk_paper(FRIENDS, TOWN, 2, 0, ("none", ((2, 1),))), True)
        self.same(is_walk_paper(FRIENDS, TOWN, 2, 2, ("none", ((2, 1),))), False)

    def test_clauses_of_ways(self):
        right = (0, "b", 1, "b", 0)
        self.same(is_walk_paper(TWICE, RING, 0, 0, ("way", right)), True)
        wrong = (
            # Another beginning or end, a word of no question, no way.
            (1, "b", 0, "b", 1), (0, "b", 1), (0,), right + ("b", 1, "b", 0), (0, "a", 1, "b", 0), list(right), (), 7,
            (False, "b", 1, "b", 0), (0, "b", True, "b", 0), (0, "b", 1, "b", False), (0, "b", 1, "b"), None, "b",
            (0, "b", 1, "b", 2), ("n", "b", "n", "b", "n"), (0, None, 1, "b", 0), (0, ["b"], 1, "b", 0), {}, right[:-1],
        )
        for told in wrong:
            with self.subTest(told=told):
                self.same(is_walk_paper(TWICE, RING, 0, 0, ("way", told)), False)
        self.same(is_walk_paper(TWICE, RING, 0, 1, ("way", right)), False)
        self.same(is_walk_paper(TWICE, RING, 1, 0, ("way", right)), False)
        long = (0, "a", 1) + ("a", 1) * 30000
        self.same(is_walk_paper(FAR, PAIR, 0, 1, ("way", long)), True)
        self.same(is_walk_paper(FAR, PAIR, 1, 1, ("way", long)), False)

    def test_other_values(self):
        for value in STRANGE + (
            (), ("way",), ("none",), ("none", ((1, 0),), ()), ["none", ((1, 0),)], ("None", ((1, 0),)), ((1, 0),), 7,
            ("within", ((1, 0),)), (None, ((1, 0),)), {"none": ((1, 0),)}, ("way", ((1, 0),)), ("none", (1,)), FAR,
            PAIR, (((1, 0),), "none"), ("none", FAR), ("way", PAIR), ("holds", ()),
        ):
            self.same(is_walk_paper(FAR, PAIR, 1, 0, value), False)
        for strange in STRANGE:
            for form in ("none", "way"):
                self.same(is_walk_paper(FAR, PAIR, 1, 0, (form, strange)), False)
                self.same(is_walk_paper(FAR, PAIR, 1, 0, (form, ((1, 0), strange))), False)
                self.same(is_walk_paper(FAR, PAIR, 1, 0, (form, ((1, strange),))), False)


class Wrong(Case):

    def test_first_wrong_argument_decides(self):
        questions, graphs = (InvalidQuestion, NO_QUESTIONS), (InvalidGraph, NO_GRAPHS)
        nodes = (InvalidNumber, STRANGE + (2, -1, "0", (0,), ONE))
        self.first_wrong_decides(reached, (FAR, PAIR, 0), (questions, graphs, nodes))
        self.first_wrong_decides(walk_paper, (FAR, PAIR, 0, 1), (questions, graphs, nodes, nodes))
        self.first_wrong_decides(is_walk_paper, (FAR, PAIR, 0, 1, 7), (questions, graphs, nodes, nodes, (None, ())))

    def test_unequal_schemas_stand_behind_all_other_errors(self):
        for graph in (TOWN, Graph(ONE.with_loops(()), ("n", "n"), ())):
            self.refused(InvalidOperation, reached, FAR, graph, 0)
            self.refused(InvalidOperation, walk_paper, FAR, graph, 0, 1)
            self.refused(InvalidOperation, is_walk_paper, FAR, graph, 0, 1, ("none", ()))
            for node in (7, True, "0", None):
                self.refused(InvalidNumber, reached, FAR, graph, node, kept=node)
                self.refused(InvalidNumber, walk_paper, FAR, graph, node, 1, kept=node)
                self.refused(InvalidNumber, walk_paper, FAR, graph, 1, node, kept=node)
                self.refused(InvalidNumber, is_walk_paper, FAR, graph, 1, node, ("none", ()), kept=node)
        self.refused(InvalidNumber, reached, FAR, EMPTY, 0, kept=0)

    def test_equal_calls_return_equal_results(self):
        graph = some_graph(ONE, random.Random(1), 40, 90)
        again = Graph(ONE, graph.kinds, graph.edges)
        for end in range(40):
            self.same(walk_paper(FAR, graph, 0, end), walk_paper(Question.read(ONE, "(a a*)?"), again, 0, end))
