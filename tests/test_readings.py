"""Readings that agree: the decision against plain search in graphs, and agreement papers of both forms."""
import random

from tests.helpers import FAR, FRIENDS, MIXED, NO_QUESTIONS, ONE, ROADS, STRANGE, TWICE, Case, some_graph
from tests.test_conditions import some_questions
from tests.test_cuts import plain_cuts
from tests.test_ways import NO_READINGS, plain_pairs, plain_ways, plain_word
from whichwalks.ask.questions import Question
from whichwalks.cut.conditions import demanded, is_met, least_table, paper
from whichwalks.cut.cuts import CONDITIONS
from whichwalks.cut.drawings import drawn
from whichwalks.cut.readings import agreement, between, do_agree, is_agreement, profile, widest
from whichwalks.errors import InvalidQuestion, UnknownName
from whichwalks.graph.ways import READINGS

NEAR = Question.read(ONE, "a a?")
PROFILES = {
    "": (ONE, "a a"), "edges": (ONE, "a b"), "rings": (ONE, "(a a)*"), "edges nodes": (ONE, "b b"),
    "edges rings": (ROADS, "lives road"), "edges nodes rings": (ROADS, "knows* lives"),
}
# What stands ahead of each reading but the first one.
AHEAD = {"trail": "edges", "simple": "nodes", "acyclic": "rings"}


def pairs_by_search(question, graph, reading):
    """The pairs by a reading, by plain search."""
    if reading == "walk":
        return set(plain_pairs(question, graph))
    told = plain_ways(graph, reading, len(graph.edges))
    return {(one[0], one[-1]) for one in told if plain_word(graph, one) in question}


class Between(Case):

    def test_all_pairs(self):
        told = {
            ("walk", "trail"): ("edges",), ("walk", "simple"): ("edges", "nodes"), ("walk", "acyclic"): CONDITIONS,
            ("trail", "simple"): ("nodes",), ("trail", "acyclic"): ("nodes", "rings"), ("simple", "acyclic"): ("rings",),
        }
        for (one, other), conditions in told.items():
            self.same([between(one, other), between(other, one)], [conditions, conditions])
        self.same([between(one, one) for one in READINGS], [()] * 4)
        self.same(len(told) * 2 + 4, 16)


class Agree(Case):

    def test_by_hand(self):
        told = (
            (FAR, "walk trail simple acyclic"), (FRIENDS, "walk trail simple acyclic"), (TWICE, "walk trail simple"),
            (NEAR, "walk trail simple"), (Question.read(ONE, "a a"), "walk"), (Question.read(ONE, "a b"), "walk trail"),
            (Question.of_words(ONE, ()), "walk trail simple acyclic"),
        )
        for question, names in told:
            for reading in READINGS:
                self.same(do_agree(question, "walk", reading), reading in names.split())
        road = Question.read(ROADS, "lives road")
        self.same([do_agree(road, "walk", "trail"), do_agree(road, "trail", "simple")], [True, False])
        self.same([do_agree(road, "simple", "acyclic"), do_agree(road, "acyclic", "walk")], [True, False])
        self.same([widest(road, reading) for reading in READINGS], ["walk", "walk", "simple", "simple"])

    def test_what_conditions_tell(self):
        for question in some_questions(51, 20):
            met = {condition: is_met(question, condition) for condition in CONDITIONS}
            self.same(profile(question), tuple(condition for condition in CONDITIONS if met[condition]))
            for one in READINGS:
                agree = []
                for other in READINGS:
                    low, high = sorted([READINGS.index(one), READINGS.index(other)])
                    wanted = all(met[AHEAD[reading]] for reading in READINGS[low + 1:high + 1])
                    self.same(do_agree(question, one, other), wanted)
                    agree += [other] if wanted else []
                self.same(widest(question, one), agree[0])

    def test_each_of_the_six_profiles(self):
        for told, (schema, text) in PROFILES.items():
            self.same(" ".join(profile(Question.read(schema, text))), told)
        for question in some_questions(52, 20):
            self.assertIn(" ".join(profile(question)), PROFILES)

    def test_readings_that_agree_have_equal_pairs(self):
        chooser = random.Random(53)
        counted = 0
        for question in some_questions(54, 12):
            for _ in range(4):
                graph = some_graph(question.schema, chooser, chooser.randrange(1, 5), chooser.randrange(7))
                found = {reading: pairs_by_search(question, graph, reading) for reading in READINGS}
                for at, one in enumerate(READINGS):
                    for other in READINGS[at + 1:]:
                        self.assertLessEqual(found[other], found[one])
                        if do_agree(question, one, other):
                            counted += bool(found[one])
                            self.assertEqual(found[one], found[other])
        self.assertGreater(counted, 100)

    def test_readings_that_do_not_agree_differ_in_the_drawing(self):
        counted = 0
        for question in some_questions(55, 20):
            for reading, condition in AHEAD.items():
                ahead = READINGS[READINGS.index(reading) - 1]
                told = agreement(question, reading, ahead)
                self.same(told[0], "agree" if do_agree(question, ahead, reading) else "part")
                if told[0] == "part":
                    _, word, first, second = told[2]
                    graph, start, end = drawn(question.schema, word, condition, (first, second))
                    if len(graph.edges) < 9:
                        counted += 1
                        self.assertIn((start, end), pairs_by_search(question, graph, ahead))
                        self.assertNotIn((start, end), pairs_by_search(question, graph, reading))
        self.assertGreater(counted, 100)

    def test_three_nodes_are_not_enough(self):
        # Words whose cuts leave the one that is lacking have seven edges, and three nodes only six with this label.
        word = ("n",) + ("b", "n") * 5
        question = Question.read(ONE, "b*") - Question.of_words(ONE, (word,))
        self.same([do_agree(question, "trail", "simple"), do_agree(question, "simple", "acyclic")], [False, True])
        chooser = random.Random(56)
        for _ in range(20):
            graph = some_graph(ONE.with_loops(()), chooser, 3, 6)
            one = question.over(graph.schema)
            self.assertEqual(pairs_by_search(one, graph, "trail"), pairs_by_search(one, graph, "simple"))


class Papers(Case):

    def test_form_and_parts(self):
        for question in some_questions(57, 15):
            for one in READINGS:
                for other in READINGS:
                    told = agreement(question, one, other)
                    self.same(is_agreement(question, one, other, told), True)
                    papers = [paper(question, condition) for condition in between(one, other)]
                    if do_agree(question, one, other):
                        self.same(told, ("agree", tuple(papers)))
                    else:
                        self.same(told[0], "part")
                        self.assertIn(told[1], between(one, other))
                        self.same(told[2][0], "fails")

    def test_each_failing_paper_of_a_condition_between(self):
        counted = 0
        for question in some_questions(58, 6):
            for word in question.words(3)[:12]:
                for condition in CONDITIONS:
                    for pair, words in plain_cuts(question.schema, word, condition).items():
                        does_fail = not any(one in question for one in words)
                        counted += does_fail
                        value = ("part", condition, ("fails", word) + pair)
                        for one in READINGS:
                            for other in READINGS:
                                wanted = does_fail and condition in between(one, other)
                                self.same(is_agreement(question, one, other, value), wanted)
        self.assertGreater(counted, 50)

    def test_right_tables_with_further_rows(self):
        table = least_table(NEAR, "nodes")
        self.same([table, demanded(NEAR, "edges")], [((2, (1,)),), ((2, (0, 1)),)])
        right = [("holds", ((2, (0, 1)),)), ("holds", ((2, (1,)),))]
        self.same(is_agreement(NEAR, "walk", "simple", ("agree", tuple(right))), True)
        # A row can be idle, and one that is met by no word of the question.
        more = ("holds", ((2, (0, 1)), (2, (1,)), (2, (2,))))
        self.same(is_agreement(NEAR, "walk", "simple", ("agree", (more, more))), True)
        less = ("holds", ())
        for papers in ((less, right[1]), (right[0], less), (right[1], right[0]), tuple(right[:1]), (right[1],),
                       tuple(right + right[1:]), tuple(right + [less]), ()):
            self.same(is_agreement(NEAR, "walk", "simple", ("agree", papers)), False)
        self.same(is_agreement(NEAR, "simple", "trail", ("agree", (right[1],))), True)
        self.same(is_agreement(NEAR, "trail", "walk", ("agree", (right[0],))), True)
        self.same(is_agreement(NEAR, "trail", "walk", ("agree", (right[1],))), False)

    def test_papers_of_another_form_or_condition(self):
        word = ("n", "b", "n", "b", "n")
        fails, holds = ("fails", word, 0, 2), ("holds", ())
        for value, wanted in (
            (("part", "rings", fails), True), (("agree", (holds, holds, holds)), False),
            (("agree", (holds, holds, fails)), False), (("part", "nodes", fails), False), (("part", "rings", holds), False),
            (("part", "edges", holds), False), (("part", "walk", fails), False), (("agree", "rings", fails), False),
            (("part", (fails,)), False), (("part", ("rings", fails)), False), (fails, False), (("rings", fails), False),
            (["part", "rings", fails], False), (("part", "rings", list(fails)), False),
            (("part", "rings", ("fails", list(word), 0, 2)), False), (("part", "rings", ("fails", word, False, 2)), False),
            (("part", "rings", ("fails", word, 0, 2), ()), False), (("part", "rings"), False), (("part",), False),
        ):
            self.same(is_agreement(TWICE, "walk", "acyclic", value), wanted)
        self.same(is_agreement(TWICE, "simple", "acyclic", ("part", "rings", fails)), True)
        self.same(is_agreement(TWICE, "walk", "simple", ("part", "rings", fails)), False)
        self.same(is_agreement(TWICE, "walk", "simple", ("agree", (holds, holds))), True)
        for value in (("agree", [holds, holds]), ["agree", (holds, holds)], ("agree", (holds, ["holds", ()])),
                      ("agree", holds, holds), ("agree", (holds, ("holds", []))), ("Agree", (holds, holds))):
            self.same(is_agreement(TWICE, "walk", "simple", value), False)

    def test_truths_are_no_states(self):
        right = ("agree", (("holds", ((2, (1,)),)),))
        self.same(is_agreement(NEAR, "trail", "simple", right), True)
        for row in ((2, (True,)), (True, (1,)), (2, (1, True)), (2, [1])):
            self.same(is_agreement(NEAR, "trail", "simple", ("agree", (("holds", (row,)),))), False)
            self.same(is_agreement(NEAR, "trail", "simple", ("agree", (("holds", ((2, (1,)), row)),))), False)

    def test_equal_readings_have_the_paper_without_papers(self):
        for question in (FAR, TWICE, Question.read(ONE, "a a")):
            for reading in READINGS:
                self.same(agreement(question, reading, reading), ("agree", ()))
                self.same(is_agreement(question, reading, reading, ("agree", ())), True)
                self.same(is_agreement(question, reading, reading, ("agree", (("holds", ()),))), False)
                value = ("part", "rings", ("fails", ("n", "b", "n", "b", "n"), 0, 2))
                self.same(is_agreement(question, reading, reading, value), False)

    def test_values_of_all_sorts(self):
        values = STRANGE + ((), 7, "agree", ("agree",), FAR, ONE, READINGS, ("agree", None), ("agree", "holds"), ("part",))
        for value in values:
            for told in (value, (value,), ("agree", value), ("agree", (value,)), ("part", value), (value, ()),
                         ("part", "rings", value), ("part", value, ("fails", ("n", "b", "n", "b", "n"), 0, 2)),
                         (value, "rings", ("fails", ("n", "b", "n", "b", "n"), 0, 2)), (value, value, value)):
                self.same(is_agreement(TWICE, "simple", "acyclic", told), False)


class Wrong(Case):

    def test_first_wrong_argument_decides(self):
        names, no_question = (UnknownName, NO_READINGS), (InvalidQuestion, NO_QUESTIONS)
        self.first_wrong_decides(between, ("walk", "simple"), (names, names))
        for call in (do_agree, agreement):
            self.first_wrong_decides(call, (FAR, "walk", "simple"), (no_question, names, names))
        self.first_wrong_decides(is_agreement, (FAR, "walk", "simple", 7), (no_question, names, names))
        self.first_wrong_decides(profile, (FAR,), (no_question,))
        self.first_wrong_decides(widest, (FAR, "walk"), (no_question, names))

    def test_nothing_is_changed(self):
        value = ("agree", [("holds", [])])
        self.same(is_agreement(MIXED_ALL, "walk", "trail", value), False)
        self.same(value, ("agree", [("holds", [])]))
        self.same(agreement(MIXED_ALL, "walk", "acyclic"), agreement(MIXED_ALL, "walk", "acyclic"))


MIXED_ALL = Question.read(MIXED, "(go|in|up)*")
