"""One question within another: the decision, and its two papers."""
import random

from tests.helpers import FAR, FRIENDS, HOME, MIXED, NO_QUESTIONS, NO_WORDS, ONE, ROADS, STRANGE, TWICE, Case
from tests.reckoning import machine_words, some_expressions, some_machine, words_up_to
from whichwalks.ask.compare import is_within, is_within_paper, within_paper
from whichwalks.ask.questions import Question
from whichwalks.errors import InvalidOperation, InvalidQuestion

ALL = (ONE, ROADS, MIXED)
SHORT = Question.read(ONE, "a?")
NOTHING = FAR - FAR


def some_questions(schema, seed):
    chooser = random.Random(seed)
    found = [Question(schema, one) for one in some_expressions(schema, chooser, 60)[::5]]
    return found + [Question.of_machine(schema, some_machine(schema, chooser, 6)) for _ in range(6)]


def plainly_a_table(one, other, pairs):
    """What [6.1] says of a table, step by step, of any ascending tuple of pairs of states."""
    kinds, firsts, steps, lasts = one.machine
    others, seconds, behind, ends = other.machine
    for state in firsts:
        if not any((state, second) in pairs for second in seconds if others[second] == kinds[state]):
            return False
    for state, second in pairs:
        if state in lasts and second not in ends:
            return False
        for source, label, target in steps:
            if source == state:
                if not any(
                    at == second and name == label and others[to] == kinds[target] and (target, to) in pairs
                    for at, name, to in behind
                ):
                    return False
    return True


class Within(Case):

    def test_by_hand(self):
        self.same([is_within(SHORT, FAR), within_paper(SHORT, FAR)], [True, ("within", ((0, 0), (1, 0)))])
        self.same([is_within(FAR, SHORT), within_paper(FAR, SHORT)], [False, ("word", ("n", "a", "n", "a", "n"))])
        self.same([within_paper(NOTHING, FAR), within_paper(NOTHING, NOTHING)], [("within", ()), ("within", ())])
        self.same([within_paper(FAR, NOTHING), within_paper(TWICE, FAR)], [
            ("word", ("n",)), ("word", ("n", "b", "n", "b", "n")),
        ])
        self.same(within_paper(FRIENDS, FRIENDS), ("within", ((0, 0), (1, 1))))

    def test_both_ways_exactly_for_equal_questions(self):
        for schema in ALL:
            questions = some_questions(schema, 1)
            for one in questions:
                for other in questions:
                    self.same(is_within(one, other) and is_within(other, one), one == other)
                    self.same(is_within(one, other), not bool(one - other))

    def test_against_words(self):
        for schema in ALL:
            questions = some_questions(schema, 2)
            for one in questions:
                ones = machine_words(one.machine, 4)
                for other in questions:
                    if not ones <= machine_words(other.machine, 4):
                        self.same(is_within(one, other), False)
                    self.same([is_within(one & other, one), is_within(one & other, other)], [True, True])

    def test_the_told_paper_is_right(self):
        for schema in ALL:
            questions = some_questions(schema, 3)
            for one in questions:
                for other in questions:
                    form, told = paper = within_paper(one, other)
                    self.same(is_within_paper(one, other, paper), True)
                    self.same(form, "within" if is_within(one, other) else "word")
                    if form == "word":
                        self.same([told in one, told in other], [True, False])
                        shortest = (one - other).shortest() if len(one) < 9 else None
                        self.assertTrue(shortest is None or len(told) == len(shortest))
                    else:
                        self.same(plainly_a_table(one, other, told), True)
                        self.same(told, tuple(sorted(set(told))))

    def test_long_words(self):
        # Eight does not divide the first multiples of seven.
        seven, other = Question.read(ONE, "(a a a a a a a)+"), Question.read(ONE, "(a a a a a a a a)* a" + " a?" * 6)
        form, word = within_paper(seven, other)
        self.same([form, len(word) // 2], ["word", 56])


class Judged(Case):

    def test_tables_with_a_pair_less_more_or_turned(self):
        for schema in ALL:
            questions = some_questions(schema, 4)
            for one in questions:
                for other in questions:
                    form, table = within_paper(one, other)
                    if form == "within":
                        self.judged_tables(one, other, table)

    def judged_tables(self, one, other, table):
        every = [(state, second) for state in range(len(one)) for second in range(len(other))]
        near = [table[:at] + table[at + 1:] for at in range(len(table))]
        near += [tuple(sorted(table + (pair,))) for pair in every if pair not in table]
        near += [tuple(sorted(table[:at] + table[at + 1:] + (pair[::-1],))) for at, pair in enumerate(table)]
        near.append(tuple(every))
        for told in near:
            right = all(pair in every for pair in told) and len(set(told)) == len(told)
            self.same(is_within_paper(one, other, ("within", told)), right and plainly_a_table(one, other, told))
        for told in (table[::-1], table + table[-1:], table[:1] + table, list(table)):
            if told != table:
                self.same(is_within_paper(one, other, ("within", told)), False)

    def test_all_tables_of_small_questions(self):
        ones = [Question.read(ONE, text) for text in ("a?", "a*", "a a", "b|a b", "(a|b)*")] + [NOTHING]
        for one in ones:
            for other in ones:
                every = [(state, second) for state in range(len(one)) for second in range(len(other))]
                if len(every) <= 9:
                    for bits in range(2 ** len(every)):
                        table = tuple(pair for at, pair in enumerate(every) if bits & 2 ** at)
                        wanted = plainly_a_table(one, other, table)
                        self.same(is_within_paper(one, other, ("within", table)), wanted)

    def test_pairs_of_states_of_different_kinds(self):
        # The empty word of the one kind is also in the table with a state of the other kind; nothing leads on.
        one, other = Question.read(ROADS, ":city|:person"), Question.read(ROADS, ":person|:city|lives")
        self.same([one.machine[0], other.machine[0]], [("city", "person"), ("city", "person")])
        self.same(within_paper(one, other), ("within", ((0, 0), (1, 1))))
        for table in (((0, 0), (0, 1), (1, 1)), ((0, 0), (1, 0), (1, 1)), ((0, 0), (0, 1), (1, 0), (1, 1))):
            self.same(is_within_paper(one, other, ("within", table)), True)
        # A state of the one with a step that a state of another kind does not have.
        self.same(is_within_paper(other, other, ("within", ((0, 0), (0, 1), (1, 1)))), True)
        self.same(is_within_paper(other, other, ("within", ((0, 0), (1, 0), (1, 1)))), False)

    def test_words_of_either_question(self):
        for schema in ALL:
            words = words_up_to(schema, 3)
            questions = some_questions(schema, 5)
            for one in questions:
                for other in questions[:6]:
                    for word in words:
                        told = is_within_paper(one, other, ("word", word))
                        self.same(told, word in one and word not in other)
        long = ("n",) + ("a", "n") * 30000
        self.same(is_within_paper(FAR, SHORT, ("word", long)), True)
        self.same(is_within_paper(SHORT, FAR, ("word", long)), False)
        self.same(is_within_paper(FAR, SHORT, ("word", list(long[:5]))), False)

    def test_other_values(self):
        table = ((0, 0), (1, 0))
        self.same(is_within_paper(SHORT, FAR, ("within", table)), True)
        wrong = STRANGE + NO_WORDS + (
            (), ("within",), ("word",), ("within", table, ()), ["within", table], ("Within", table), table,
            ("holds", table), (None, table), ("within", None), ("within", ((0, 0), (1, 0, 0))),
            ("within", ((0, 0), (1,))), ("within", ((0, 0), [1, 0])), ("within", ((False, 0), (1, 0))),
            ("within", ((0, 0), (True, 0))), ("within", ((0, False), (1, 0))), ("within", ((0, 0), (1, 0), (2, 0))),
            ("within", ((-1, 0), (0, 0), (1, 0))), ("within", ((0, 0), (1, 0), (1, 1))),
            ("within", ((0, 0), ("1", 0))), ("within", ((0, 0), (1, None))), ("within", {(0, 0): True}),
            ("within", [(0, 0), (1, 0)]), ("within", (0, 0)), (table, "within"), ("within", FAR), FAR, ("word", FAR),
            ("word", HOME), {"within": table},
        )
        for value in wrong:
            with self.subTest(value=value):
                self.same(is_within_paper(SHORT, FAR, value), False)
        word = ("n", "a", "n", "a", "n")
        self.same(is_within_paper(FAR, SHORT, ("word", word)), True)
        for form in STRANGE + ("Word", "words", "way", "fails", "within", ("word",), ["word"], 0, 1, "beyond"):
            self.same(is_within_paper(FAR, SHORT, (form, word)), False)
        for strange in STRANGE:
            self.same(is_within_paper(SHORT, FAR, ("within", strange)), False)
            self.same(is_within_paper(SHORT, FAR, ("within", ((0, 0), strange))), False)
            self.same(is_within_paper(SHORT, FAR, ("within", ((0, 0), (1, strange)))), False)
            self.same(is_within_paper(FAR, SHORT, ("word", strange)), False)


class Wrong(Case):

    def test_first_wrong_argument_decides(self):
        questions = (InvalidQuestion, NO_QUESTIONS)
        self.first_wrong_decides(is_within, (FAR, TWICE), (questions, questions))
        self.first_wrong_decides(within_paper, (FAR, TWICE), (questions, questions))
        self.first_wrong_decides(is_within_paper, (FAR, TWICE, 7), (questions, questions, (None, ())))

    def test_unequal_schemas(self):
        for other in (FRIENDS, Question.read(ONE.with_loops(()), "a*")):
            for one, two in ((FAR, other), (other, FAR)):
                self.refused(InvalidOperation, is_within, one, two)
                self.refused(InvalidOperation, within_paper, one, two)
                self.refused(InvalidOperation, is_within_paper, one, two, ("within", ()))
        self.refused(InvalidQuestion, is_within, FRIENDS, 7)
        self.same(is_within(FAR, Question.read(ONE.turned(), "a*")), True)
