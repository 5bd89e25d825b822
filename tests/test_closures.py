"""Wider and narrower questions, against all short words and their cuts that are apart, and what shows their words."""
import random
import time

from tests.helpers import (
    FAR, FRIENDS, HOME, MIXED, NO_QUESTIONS, NO_WORDS, ONE, ROADS, STRANGE, TWICE, Case,
)
from tests.reckoning import machine_words, some_expressions, some_machine, words_up_to
from tests.test_cuts import NO_TUPLES, TUPLES, plain_cuts
from tests.test_drawings import left_by_all, told_apart
from whichwalks.ask.compare import is_within
from whichwalks.ask.questions import Question
from whichwalks.base.schemas import Schema
from whichwalks.close.closures import is_narrowing, is_widening, narrower, narrowing, wider, widening
from whichwalks.cut.conditions import is_met
from whichwalks.cut.cuts import CONDITIONS, reducts
from whichwalks.errors import InvalidOperation, InvalidQuestion, InvalidWord, TooMany

BARE = ONE.with_loops(())
ALL = (ONE, BARE, ONE.with_loops(("a", "b")), ROADS, MIXED, MIXED.with_loops(()))
THRICE = Question.read(ONE, "b b b")
BBB = ("n", "b", "n", "b", "n", "b", "n")
KNOWN = {}


def cut_words(schema, word, condition):
    """The dict from all tuples of one or more cuts that are apart, and no double edges, to the words that they leave."""
    asked = (schema.kinds, schema.loops, word, condition)
    if asked not in KNOWN:
        pairs = [pair for pair, words in plain_cuts(schema, word, condition).items() if len(words) == 1]
        told = [cuts for cuts in told_apart(pairs) if cuts]
        KNOWN[asked] = {cuts: left_by_all(schema, word, condition, cuts) for cuts in told}
    return KNOWN[asked]


def all_cut_words(schema, word, conditions):
    """The list of the triples (condition, cuts, word that they leave)."""
    return [
        (condition, cuts, left)
        for condition in conditions for cuts, left in cut_words(schema, word, condition).items()
    ]


def is_let(schema, conditions):
    return "edges" not in conditions or "nodes" in conditions or not schema.loops


def some_questions(seed, many):
    """Questions with each tuple of conditions that is let for their schema."""
    chooser = random.Random(seed)
    for schema in ALL:
        told = [Question(schema, one) for one in some_expressions(schema, chooser, many)[len(schema.labels):]]
        told += [Question.of_machine(schema, some_machine(schema, chooser, 4)) for _ in range(many // 2)]
        for question in told:
            for conditions in TUPLES:
                if is_let(schema, conditions):
                    yield question, conditions


def single_words(seed, many):
    """Words, each with its question, the conditions that are let, and all tuples of cuts of it by these."""
    chooser = random.Random(seed)
    for schema in ALL:
        words = words_up_to(schema, 5 if len(schema.labels) < 3 else 4)
        for word in chooser.sample(words, min(many, len(words))):
            for conditions in TUPLES:
                told = all_cut_words(schema, word, conditions)
                if is_let(schema, conditions) and told:
                    yield schema, word, conditions, told


def some_words(question, chooser, size, many):
    words = words_up_to(question.schema, size)
    return chooser.sample(words, min(many, len(words)))


class Wider(Case):

    def test_by_hand(self):
        self.same(wider(TWICE, ("rings",)) == Question.read(ONE, "b b|:n"), True)
        for conditions in (("nodes",), ("edges", "nodes")):
            self.same(wider(THRICE, conditions) == Question.read(ONE, "b|b b b"), True)
        self.same(wider(THRICE, ("nodes", "rings")) == Question.read(ONE, "b|b b b|:n"), True)
        self.same(wider(THRICE.over(BARE), ("edges",)) == Question.read(BARE, "b|b b b"), True)
        self.same(wider(Question.read(BARE, "a b a"), ("edges",)) == Question.read(BARE, "a|a b a"), True)
        self.same(wider(Question.read(BARE, "a b a"), ("edges", "rings")) == Question.read(BARE, "a|a b a|:n"), True)
        self.same(wider(Question.read(ONE, "a b a"), ("nodes",)) == Question.read(ONE, "a b a|b a|a b|a|b"), True)
        for question in (FAR, FRIENDS, Question.of_words(ROADS, ())):
            for conditions in TUPLES:
                if is_let(question.schema, conditions):
                    self.same(wider(question, conditions) == question, True)

    def test_has_what_cuts_leave_and_nothing_else(self):
        chooser, counted = random.Random(71), 0
        for question, conditions in some_questions(72, 9):
            whole = wider(question, conditions)
            self.same([is_within(question, whole), whole.schema == question.schema], [True, True])
            self.same([is_met(whole, condition) for condition in conditions], [True] * len(conditions))
            # All that it has comes of words of the question, so nothing less would do.
            for word in some_words(question, chooser, 3, 12):
                told = widening(question, conditions, word)
                self.same(told is not None, word in whole)
                if told is not None and told[1] is not None:
                    counted += 1
                    other, condition, cuts = told
                    self.assertIn(condition, conditions)
                    self.same([other in question, word in question], [True, False])
                    if len(other) < 16:
                        self.same(cut_words(question.schema, other, condition)[cuts], word)
                    else:
                        self.same(left_by_all(question.schema, other, condition, cuts), word)
            for word in list(machine_words(question.machine, 4))[:12]:
                for _, _, left in all_cut_words(question.schema, word, conditions):
                    self.assertIn(left, whole)
                self.assertTrue(all(one in whole for one in reducts(question.schema, word, conditions)))
        self.assertGreater(counted, 100)

    def test_made_wider_again(self):
        for question, conditions in some_questions(73, 6):
            whole = wider(question, conditions)
            self.same(wider(whole, conditions) == whole, True)
            self.same(wider(question, ()) == question, True)

    def test_turned(self):
        for question, conditions in some_questions(74, 5):
            self.assertEqual(wider(question.turned(), conditions), wider(question, conditions).turned())

    def test_24_states_and_more(self):
        def around(many):
            """One edge, and each number of edges more around so many states."""
            steps = tuple((state, "b", (state + 1) % many) for state in range(many))
            return Question.of_machine(ONE, (("n",) * many, (0,), steps, (1,)))

        self.same([len(around(23)), len(wider(around(23), ("rings",)))], [23, 24])
        self.same([len(around(24)), len(wider(around(24), ()))], [24, 24])
        self.refused(TooMany, wider, around(24), ("rings",), kept=24)
        self.same(len(wider(around(24), ("nodes",))), 2)
        self.same(is_widening(around(24), ("rings",), ("n",), widening(around(24), ("rings",), ("n",))), True)


class Narrower(Case):

    def test_by_hand(self):
        self.same([bool(narrower(TWICE, ("rings",))), bool(narrower(THRICE, ("nodes",)))], [False, False])
        self.same(narrower(TWICE, ("edges", "nodes")) == TWICE, True)
        self.same(narrower(THRICE, ("rings",)).words(3), ())
        self.same(narrower(Question.read(ONE, "b|b b b|a"), ("nodes",)) == Question.read(ONE, "b|b b b|a"), True)
        self.same(narrower(Question.read(ONE, "b|b b b|a b"), ("nodes",)) == Question.read(ONE, "b|b b b|a b"), True)
        self.same(narrower(Question.read(ONE, "b|b b b|a b b"), ("nodes",)) == Question.read(ONE, "b|b b b"), True)
        self.same(narrower(Question.read(ONE, "b|b b b|a"), ("nodes", "rings")) == Question.read(ONE, "b"), True)
        # Each of its words has an edge cut that leaves no a.
        self.same(bool(narrower(Question.read(BARE, "b+ a b"), ("edges",))), False)
        self.same(narrower(Question.read(BARE, "b+ a b|b"), ("edges",)) == Question.read(BARE, "b a b|b"), True)
        for question in (FAR, FRIENDS, Question.of_words(ROADS, ())):
            for conditions in TUPLES:
                if is_let(question.schema, conditions):
                    self.same(narrower(question, conditions) == question, True)

    def test_has_just_the_words_whose_cuts_stay_within(self):
        chooser, counted = random.Random(75), 0
        for question, conditions in some_questions(76, 9):
            less = narrower(question, conditions)
            self.same([is_within(less, question), less.schema == question.schema], [True, True])
            self.same([is_met(less, condition) for condition in conditions], [True] * len(conditions))
            words = sorted(machine_words(question.machine, 4))
            for word in chooser.sample(words, min(12, len(words))):
                told = all_cut_words(question.schema, word, conditions)
                beyond = [(condition, cuts) for condition, cuts, left in told if left not in question]
                self.same(word in less, not beyond)
                found = narrowing(question, conditions, word)
                if beyond:
                    counted += 1
                    self.assertIn(found, beyond)
                else:
                    self.same(found, None)
        self.assertGreater(counted, 100)

    def test_nothing_greater_will_do(self):
        # A question that meets the conditions and is within the question is within the narrower one.
        chooser = random.Random(77)
        for question, conditions in some_questions(78, 5):
            less = narrower(question, conditions)
            words = sorted(machine_words(question.machine, 3))
            told = tuple(chooser.sample(words, min(3, len(words))))
            inner = wider(Question.of_words(question.schema, told), conditions)
            if is_within(inner, question):
                self.same(is_within(inner, less), True)
            self.same(narrower(less, conditions) == less, True)

    def test_turned(self):
        for question, conditions in some_questions(79, 5):
            self.assertEqual(narrower(question.turned(), conditions), narrower(question, conditions).turned())

    def test_24_states_and_more(self):
        steps = ((0, "a", 1), (0, "b", 2), (1, "a", 3), (1, "b", 2), (2, "a", 0), (2, "b", 1), (3, "a", 0))
        question = Question.of_machine(BARE, (("n",) * 4, (0,), steps, (1, 2, 3)))
        self.same([len(question), len(narrower(question, ("edges",)))], [4, 24])
        self.same(is_met(narrower(question, ("edges",)), "edges"), True)
        more = Question.read(BARE, "((a|b) (a|b) (a|b))* (a|b)?")
        self.same(len(more), 3)
        for conditions in (("edges",), ("edges", "rings")):
            self.refused(TooMany, narrower, more, conditions, kept=24)
        self.same(narrowing(more, ("edges",), ("n", "a", "n", "b", "n", "a", "n")), None)
        word = ("n", "a", "n", "b", "n", "b", "n", "a", "n")
        self.same(narrowing(more, ("edges",), word), None)
        word = ("n", "a", "n", "b", "n", "a", "n", "b", "n", "a", "n", "b", "n", "a", "n")
        self.same(is_narrowing(more, ("edges",), word, narrowing(more, ("edges",), word)), True)
        self.same(len(narrower(more, ("nodes",))) < 24, True)


    def test_many_labels_and_states(self):
        chooser, begin, sizes = random.Random(86), time.process_time(), []
        schema = Schema(("n",), {label: (("n",), ("n",), False) for label in "abcd"})
        for _ in range(12):
            many = chooser.randrange(16, 25)
            steps = tuple((state, label, chooser.randrange(many)) for state in range(many) for label in "abcd")
            lasts = tuple(state for state in range(many) if chooser.random() < chooser.choice((0.1, 0.5, 0.9)))
            question = Question.of_machine(schema, (("n",) * many, (0,), steps, lasts))
            for conditions in TUPLES:
                try:
                    less = narrower(question, conditions)
                except TooMany:
                    continue
                sizes.append(len(less))
                self.same([is_within(less, question)] + [is_met(less, one) for one in conditions],
                          [True] * (len(conditions) + 1))
                for word in question.words(4)[::9]:
                    self.same(word in less, narrowing(question, conditions, word) is None)
        self.assertGreater(len(sizes), 40)
        # It takes about a second; slow machines may take much longer.
        self.assertLess(time.process_time() - begin, 60)


class Widening(Case):

    def test_each_right_triple_and_no_other_one(self):
        counted = 0
        chooser = random.Random(80)
        for question, conditions in some_questions(81, 4):
            others = some_words(question, chooser, 4, 6) + sorted(machine_words(question.machine, 4))[:6]
            for other in others:
                for condition in CONDITIONS:
                    for cuts, left in cut_words(question.schema, other, condition).items():
                        value = (other, condition, cuts)
                        wanted = other in question and condition in conditions
                        counted += wanted
                        self.same(is_widening(question, conditions, left, value), wanted)
                        self.same(is_widening(question, conditions, other, value), False)
                        more = left + left[1:] if left[0] == left[-1] and len(left) > 1 else (question.schema.kinds[0],)
                        self.same(is_widening(question, conditions, more, value), wanted and more == left)
                self.same(is_widening(question, conditions, other, (other, None, ())), other in question)
                for condition in CONDITIONS:
                    self.same(is_widening(question, conditions, other, (other, condition, ())), False)
        self.assertGreater(counted, 500)

    def test_one_word_alone(self):
        for schema, word, conditions, told in single_words(84, 25):
            question = Question.of_words(schema, (word,))
            for condition, cuts, left in told:
                found = widening(question, conditions, left)
                if left == word:
                    self.same(found, (word, None, ()))
                else:
                    self.same(found[0], word)
                    self.assertIn(found[1:] + (left,), told)
            whole = wider(question, conditions)
            words = {left for _, _, left in told} | {word}
            self.same([one for one in words_up_to(schema, 3) if one in whole], [
                one for one in words_up_to(schema, 3) if one in words])

    def test_own_words(self):
        self.same(is_widening(FAR, ("nodes",), ("n", "a", "n"), (("n", "a", "n"), None, ((0, 1),))), False)
        self.same(widening(FAR, ("nodes",), ("n", "a", "n")), (("n", "a", "n"), None, ()))
        self.same(widening(TWICE, (), ("n", "b", "n", "b", "n")), (("n", "b", "n", "b", "n"), None, ()))
        # A word that the question has can be shown by cuts of another one, too.
        value = (("n", "a", "n", "a", "n"), "nodes", ((0, 1),))
        self.same(is_widening(FAR, ("nodes",), ("n", "a", "n"), value), True)
        self.same(is_widening(FAR, ("nodes",), ("n",), (("n", "a", "n"), None, ())), False)

    def test_none_exactly_if_there_is_none(self):
        self.same([widening(THRICE, (), ("n",)), widening(THRICE, ("nodes",), ("n",))], [None, None])
        self.same(widening(THRICE, ("nodes", "rings"), ("n",)), (BBB, "rings", ((0, 3),)))
        self.same(is_widening(THRICE, ("nodes",), ("n",), None), False)
        self.same(widening(Question.of_words(ONE, ()), ("nodes", "rings"), ("n",)), None)

    def test_several_cuts(self):
        loops = Question.read(ONE, "a b a b a b a")
        word = ("n", "b", "n", "b", "n", "b", "n")
        other, condition, cuts = widening(loops, ("nodes",), word)
        self.same([condition, cuts, other in loops], ["nodes", ((0, 1), (2, 3), (4, 5), (6, 7)), True])
        apart = Question.read(BARE, "a b a a b a")
        found = widening(apart, ("edges",), ("n", "a", "n", "a", "n"))
        self.same(found, (("n", "a", "n", "b", "n", "a", "n", "a", "n", "b", "n", "a", "n"), "edges", ((0, 2), (3, 5))))

    def test_the_nearest_of_several_edges(self):
        # Behind the first edge the same one stands again, by one edge or by two, and ends in one state.
        question = Question.read(BARE, "b a|a b a|a b b a")
        found = widening(question, ("edges",), ("n", "a", "n"))
        self.same(found, (("n", "a", "n", "b", "n", "a", "n"), "edges", ((0, 2),)))

    def test_words_are_as_short_as_any(self):
        for question, conditions in some_questions(82, 5):
            words = sorted(machine_words(question.machine, 5), key=len)
            for word in words_up_to(question.schema, 1):
                told = [len(one) for one in words for _, _, left in all_cut_words(question.schema, one, conditions)
                        if left == word] + [len(word)] * (word in question)
                if told:
                    self.same(len(widening(question, conditions, word)[0]), min(told))
        # One word would do with 23 edges more at each of 50 places, and one with one edge more.
        steps = tuple((state, "b", (state + 1) % 23) for state in range(23))
        machine = (("n",) * 23, (0,), steps, (0,))
        far = Question.of_machine(ONE, machine)
        word = ("n",) + ("b", "n") * 920
        self.same(widening(far, ("nodes",), word), (word, None, ()))
        self.same(len(widening(far, ("nodes",), word + ("b", "n"))[0]) // 2, 943)
        self.same(widening(Question.read(ONE, "(b a a)*"), ("nodes",), ("n",) + ("b", "n") * 333)[2][-1], (997, 999))

    def test_values_near_right_ones(self):
        word = ("n", "b", "n")
        right = (BBB, "nodes", ((1, 3),))
        self.same(is_widening(THRICE, ("nodes",), word, right), True)
        for value in (
            list(right), (list(BBB), "nodes", ((1, 3),)), (BBB, "nodes", [(1, 3)]), (BBB, "nodes", ([1, 3],)),
            (BBB, "nodes", ((True, 3),)), (BBB, "nodes", (1, 3)), (BBB, "nodes", ((1, 3), (1, 3))), (BBB, "nodes", ()),
            (BBB, "edges", ((0, 2),)), (BBB, "rings", ((0, 3),)), (BBB, None, ()), (BBB, None, ((1, 3),)),
            (BBB, "nodes", None), (BBB, None, None), (BBB, "nodes"), (BBB, "nodes", ((1, 3),), ()), (word, None, ()),
            (BBB, "nodes", ((3, 1),)), (BBB, "nodes", ((0, 3),)), (BBB, "nodes", ((1, 2),)), (BBB, "Nodes", ((1, 3),)),
            (BBB + ("b", "n"), "nodes", ((0, 3),)), (None, "nodes", ((1, 3),)), (BBB, ("nodes",), ((1, 3),)),
            (BBB, ["nodes"], ((1, 3),)), (word, None, []),
        ) + STRANGE:
            self.same(is_widening(THRICE, ("nodes",), word, value), False)
        self.same(is_widening(THRICE, ("edges", "nodes"), word, (BBB, "edges", ((0, 2),))), True)

    def test_double_edges_are_no_cuts_here(self):
        # Both words that a double edge leaves come of node cuts, where these are not whole.
        double = Question.read(ONE, "a a")
        word = ("n", "a", "n", "a", "n")
        for left in (("n",), ("n", "a", "n")):
            for conditions in (("edges", "nodes"), ("edges", "nodes", "rings")):
                self.same(is_widening(double, conditions, left, (word, "edges", ((0, 1),))), False)
        self.same(is_widening(double, ("edges", "nodes"), ("n", "a", "n"), (word, "nodes", ((0, 1),))), True)
        self.same(widening(double, ("edges", "nodes"), ("n",)), None)
        longer = Question.read(ONE, "a a b a")
        value = (("n", "a", "n", "a", "n", "b", "n", "a", "n"), "edges", ((0, 1),))
        self.same(is_widening(longer, ("edges", "nodes"), ("n", "a", "n", "b", "n", "a", "n"), value), False)

    def test_cuts_that_are_not_apart(self):
        loops = Question.read(ONE, "a a a a")
        word = ("n",) + ("a", "n") * 4
        self.same(is_widening(loops, ("nodes",), word[:5], (word, "nodes", ((0, 1), (2, 3)))), True)
        for cuts in (((0, 1), (1, 2)), ((2, 3), (0, 1)), ((0, 2), (1, 2)), ((0, 1), (0, 1))):
            self.same(is_widening(loops, ("nodes",), word[:5], (word, "nodes", cuts)), False)
        self.same(is_widening(loops, ("nodes",), word[:5], (word, "nodes", ((1, 3),))), True)


class Narrowing(Case):

    def test_all_that_is_left_but_one_word(self):
        counted = 0
        for schema, word, conditions, told in single_words(85, 25):
            for lacking in sorted({left for _, _, left in told} - {word}):
                words = {left for _, _, left in told} | {word}
                try:
                    question = Question.of_words(schema, tuple(words - {lacking}))
                except TooMany:
                    continue
                found = narrowing(question, conditions, word)
                self.assertIn(found + (lacking,), told)
                self.same(word in narrower(question, conditions), False)
                counted += 1
        self.assertGreater(counted, 300)

    def test_each_right_pair_and_no_other_one(self):
        counted = 0
        for question, conditions in some_questions(83, 6):
            for word in sorted(machine_words(question.machine, 4))[:10]:
                for condition, cuts, left in all_cut_words(question.schema, word, CONDITIONS):
                    wanted = left not in question and condition in conditions
                    counted += wanted
                    self.same(is_narrowing(question, conditions, word, (condition, cuts)), wanted)
                for value in (None, (), (None, ()), ("nodes", ()), ("rings", ()), ("edges", ())):
                    self.same(is_narrowing(question, conditions, word, value), False)
        self.assertGreater(counted, 200)

    def test_values_near_right_ones(self):
        right = ("nodes", ((1, 3),))
        self.same(is_narrowing(THRICE, ("nodes",), BBB, right), True)
        for value in (
            list(right), ("nodes", [(1, 3)]), ("nodes", ([1, 3],)), ("nodes", ((True, 3),)), ("nodes", (1, 3)),
            ("nodes", ((1, 3), (1, 3))), ("nodes", ((3, 1),)), ("nodes", ((0, 3),)), ("edges", ((0, 2),)),
            ("rings", ((0, 3),)), ("nodes", ((1, 2),)), ("nodes",), ("nodes", ((1, 3),), ()), (None, ((1, 3),)),
            (["nodes"], ((1, 3),)), ("nodes", None), (BBB, "nodes", ((1, 3),)), ("nodes", 1, 3),
        ) + STRANGE:
            self.same(is_narrowing(THRICE, ("nodes",), BBB, value), False)
        self.same(is_narrowing(THRICE, ("edges", "nodes"), BBB, ("edges", ((0, 2),))), True)
        self.same(is_narrowing(THRICE, ("nodes", "rings"), BBB, ("rings", ((0, 3),))), True)

    def test_double_edges_and_cuts_that_are_not_apart(self):
        loops = Question.read(ONE, "a a a a")
        word = ("n",) + ("a", "n") * 4
        for cuts in (((0, 1),), ((1, 2),), ((0, 1), (2, 3))):
            self.same(is_narrowing(loops, ("edges", "nodes"), word, ("edges", cuts)), False)
            self.same(is_narrowing(loops, ("edges", "nodes"), word, ("nodes", cuts)), True)
        self.same(is_narrowing(loops, ("edges", "nodes"), word, ("edges", ((0, 2),))), True)
        for cuts in (((0, 1), (1, 2)), ((2, 3), (0, 1)), ((0, 2), (1, 3))):
            self.same(is_narrowing(loops, ("nodes",), word, ("nodes", cuts)), False)

    def test_only_several_cuts_together(self):
        # Each cut alone leaves a word of the question.
        bare = Question.of_words(BARE, tuple(
            ("n",) + tuple(part for label in text for part in (label, "n"))
            for text in ("abaaba", "aaba", "abaa", "aba", "a", "abaaba")
        ))
        word = ("n", "a", "n", "b", "n", "a", "n", "a", "n", "b", "n", "a", "n")
        told = cut_words(BARE, word, "edges")
        self.same(narrowing(bare, ("edges",), word), ("edges", ((0, 2), (3, 5))))
        self.same([cuts for cuts, left in told.items() if left not in bare], [((0, 2), (3, 5))])

    def test_states_that_are_met_again(self):
        # Only the cut at the end leaves another word, which leads to the first state once more.
        question = Question.read(ONE, "a* (b|b b)")
        self.same(narrowing(question, ("nodes",), ("n", "a", "n", "b", "n", "b", "n")), ("nodes", ((1, 3),)))
        # Different edges lead to one state; the cut has the second one of them.
        three = Schema(("n",), {label: (("n",), ("n",), False) for label in "abc"})
        word = ("n", "a", "n", "b", "n", "c", "n", "b", "n")
        self.same(narrowing(Question.read(three, "a b* c b"), ("edges",), word), ("edges", ((1, 3),)))
        two = Schema(("k", "m"), {"g": (("k", "m"), ("m",), False), "h": (("m",), ("m",), False)})
        word = ("k", "g", "m", "g", "m", "h", "m", "g", "m")
        self.same(narrowing(Question.read(two, ":k g g* h g"), ("edges",), word), ("edges", ((1, 3),)))

    def test_long_words(self):
        word = ("n",) + ("b", "n") * 30000
        even = Question.read(ONE, "(b b)*")
        for conditions in (("nodes",), ("nodes", "rings")):
            self.same(is_narrowing(even, conditions, word, narrowing(even, conditions, word)), True)
        self.same(narrowing(even, ("rings",), word), None)
        self.same(narrowing(Question.read(ONE, "b*"), ("nodes",), word), None)


class Wrong(Case):

    def test_first_wrong_argument_decides(self):
        question, tuples = (InvalidQuestion, NO_QUESTIONS), (InvalidOperation, NO_TUPLES)
        words = (InvalidWord, NO_WORDS + (HOME,))
        for call in (wider, narrower):
            self.first_wrong_decides(call, (TWICE, ("nodes",)), (question, tuples))
        word = ("n", "b", "n", "b", "n")
        for call in (widening, narrowing):
            self.first_wrong_decides(call, (TWICE, ("nodes",), word), (question, tuples, words))
        for call in (is_widening, is_narrowing):
            self.first_wrong_decides(call, (TWICE, ("nodes",), word, 7), (question, tuples, words))

    def test_edges_alone_where_a_label_can_loop(self):
        for conditions in (("edges",), ("edges", "rings")):
            for call in (wider, narrower):
                self.refused(InvalidOperation, call, TWICE, conditions)
                self.refused(InvalidOperation, call, FRIENDS, conditions)
                self.same(call(TWICE.over(BARE), conditions).schema == BARE, True)
            for call in (widening, narrowing):
                self.refused(InvalidOperation, call, TWICE, conditions, BBB[:5])
                self.refused(InvalidWord, call, TWICE, conditions, HOME)
            for call in (is_widening, is_narrowing):
                self.refused(InvalidOperation, call, TWICE, conditions, BBB[:5], 7)
                self.refused(InvalidWord, call, TWICE, conditions, HOME, 7)

    def test_words_that_the_question_has_not(self):
        self.refused(InvalidOperation, narrowing, TWICE, ("nodes",), BBB)
        self.refused(InvalidOperation, is_narrowing, TWICE, ("nodes",), BBB, ("nodes", ((1, 3),)))
        self.same(is_widening(TWICE, ("nodes",), BBB, ("nodes", ((1, 3),))), False)
        self.refused(InvalidOperation, narrowing, Question.of_words(ONE, ()), (), ("n",))

    def test_nothing_is_changed(self):
        value = [BBB, "nodes", [(1, 3)]]
        self.same(is_widening(THRICE, ("nodes",), BBB, value), False)
        self.same(value, [BBB, "nodes", [(1, 3)]])
        self.same([len(THRICE), wider(THRICE, ("nodes",)) == wider(THRICE, ("nodes",))], [4, True])
