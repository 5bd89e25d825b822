"""Conditions: the decision, what is demanded, and papers of both forms."""
import random
import time

from tests.helpers import (
    FAR, FRIENDS, FULL, HOME, MIXED, NO_QUESTIONS, ONE, ROADS, STRANGE, TWICE, Case,
)
from tests.reckoning import machine_words, some_expressions, some_machine, words_up_to
from tests.test_cuts import NO_CONDITIONS, plain_cuts
from whichwalks.ask.questions import Question
from whichwalks.base.schemas import Schema
from whichwalks.cut.conditions import demanded, is_met, is_paper, least_table, paper
from whichwalks.cut.cuts import CONDITIONS
from whichwalks.errors import InvalidQuestion, TooMany, UnknownName

ALL = (ONE, ONE.with_loops(("a", "b")), ROADS, MIXED, MIXED.with_loops(("go", "up")))
NEAR = Question.read(ONE, "a a?")


def some_questions(seed, many):
    chooser = random.Random(seed)
    for schema in ALL:
        for expression in some_expressions(schema, chooser, many):
            yield Question(schema, expression)
        for _ in range(many):
            yield Question.of_machine(schema, some_machine(schema, chooser, chooser.randrange(1, 7)))


def plainly_wrong(question, word, condition):
    """The pairs of the cuts of a word that leave only words that are not in the question."""
    plain = plain_cuts(question.schema, word, condition)
    return {pair for pair, words in plain.items() if not any(one in question for one in words)}


def reach_of(question):
    """The pairs of states between which a word with at least one edge leads, and those with at least two."""
    steps = {(state, target) for state, _, target in question.machine[2]}
    many = set(steps)
    while True:
        more = many | {(p, r) for p, q in many for at, r in steps if at == q}
        if more == many:
            return many, {(p, r) for p, q in steps for at, r in many if at == q}
        many = more


def rings_of(question):
    """The pairs of states between which a ring leads."""
    kinds, _, steps, _ = question.machine
    pairs = set(reach_of(question)[1])
    pairs |= {(state, target) for state, label, target in steps if label in question.schema.loops}
    return {(p, q) for p, q in pairs if kinds[p] == kinds[q]}


def plainly_demanded(question, condition):
    """What [0.17] demands, idle rows left out; () stands for the others of a step that p does not have."""
    kinds, _, steps, _ = question.machine
    rows = set()
    if condition == "nodes":
        for p, q in rings_of(question):
            if any(target == p for _, _, target in steps):
                rows.add((q, (p,)))
            else:
                for source, label, target in steps:
                    if source == q:
                        found = question.target(p, label, kinds[target])
                        rows.add((target, () if found is None else (found,)))
    if condition == "edges":
        many = reach_of(question)[0]
        for o, label, p in steps:
            for s, name, q in steps:
                if label == name and kinds[o] == kinds[s] and kinds[p] == kinds[q] and (p, s) in many:
                    rows.add((q, (p,)))
                if label == name and s == p and label in question.schema.loops and kinds[o] == kinds[p] == kinds[q]:
                    rows.add((q, tuple(sorted({o, p}))))
    return {(q, others) for q, others in rows if q not in others}


def rows_after(question, row):
    """The rows behind a row, for each step of its state; idle ones are left out."""
    kinds, _, steps, _ = question.machine
    found = set()
    for state, label, target in steps:
        if state == row[0]:
            ends = {question.target(other, label, kinds[target]) for other in row[1]} - {None}
            if target not in ends:
                found.add((target, tuple(sorted(ends))))
    return found


def is_alone(question, row):
    lasts = question.machine[3]
    return row[0] in lasts and not any(other in lasts for other in row[1])


def meets_rings(question):
    kinds, firsts, _, lasts = question.machine
    rings = rings_of(question)
    return all(f in lasts or not any((f, q) in rings for q in lasts) for f in firsts)


def plainly_least(question, condition):
    """The least table by [0.16]."""
    if condition == "rings":
        return () if meets_rings(question) else None
    rows = plainly_demanded(question, condition)
    while True:
        if any(not row[1] or is_alone(question, row) for row in rows):
            return None
        more = rows | {behind for row in rows for behind in rows_after(question, row)}
        if more == rows:
            return tuple(sorted(rows))
        rows = more


def plainly_holds(question, condition, table):
    """Whether a paper of the form "holds" is right, by [0.18]; the table is an ascending tuple of rows."""
    if condition == "rings":
        return table == () and meets_rings(question)
    if any(is_alone(question, row) for row in table):
        return False
    wanted = plainly_demanded(question, condition) | {behind for row in table for behind in rows_after(question, row)}
    return all(row in table for row in wanted)


def all_rows(question):
    """All rows of states of one kind, idle ones, too."""
    kinds = question.machine[0]
    states = range(len(kinds))
    return [
        (q, others) for q in states for p in states for r in states[p:] if kinds[p] == kinds[q] == kinds[r]
        for others in [(p,) if p == r else (p, r)]
    ]


class Met(Case):

    def test_by_hand(self):
        told = (
            (ONE, "a*", "edges nodes rings"), (ONE, "b b", "edges nodes"), (ROADS, "knows* lives", "edges nodes rings"),
            (ONE, "a a?", "edges nodes"), (ONE, "a b", "edges"), (ONE, "a a", ""), (ONE, "a", "edges nodes"),
            (ONE, "b", "edges nodes rings"), (ONE, "a a a", ""), (ONE, "b b b", ""),
            (ONE, ":n|b b", "edges nodes rings"), (ROADS, "lives road", "edges rings"),
            (ROADS, "lives road*", "edges nodes rings"), (ROADS, ":city", "edges nodes rings"),
            (ONE, "(a|b)*", "edges nodes rings"), (ONE, "(a a)*", "rings"), (ONE, "(a|b)+", "edges nodes"),
            (ONE, "a? b a?", ""), (ONE, "a* b a*", ""), (ONE, "a* b?", "edges nodes rings"),
            (ONE, "a b|b|a|:n", "edges nodes rings"), (ONE, "a b|b|:n", "edges nodes rings"),
            (ONE, "a b|a|:n", "edges rings"),
        )
        for schema, text, met in told:
            with self.subTest(text=text):
                question = Question.read(schema, text)
                self.same(" ".join([condition for condition in CONDITIONS if is_met(question, condition)]), met)

    def test_finitely_many_words(self):
        chooser = random.Random(31)
        for schema in ALL:
            words = words_up_to(schema, 4)
            for many in (0, 1, 2, 3, 4, 6, 8, 12):
                for _ in range(6):
                    told = tuple(chooser.choice(words[:40] if many > 4 else words) for _ in range(many))
                    try:
                        question = Question.of_words(schema, told)
                    except TooMany:
                        continue
                    for condition in CONDITIONS:
                        wrong = [word for word in set(told) if plainly_wrong(question, word, condition)]
                        self.same(is_met(question, condition), not wrong)

    def test_words_with_few_edges(self):
        for question in some_questions(32, 25):
            words = machine_words(question.machine, 5)
            for condition in CONDITIONS:
                if is_met(question, condition):
                    self.assertFalse([word for word in words if plainly_wrong(question, word, condition)])

    def test_by_tables(self):
        for question in some_questions(33, 40):
            for condition in CONDITIONS:
                self.same(is_met(question, condition), plainly_least(question, condition) is not None)

    def test_what_meets_nodes_meets_edges(self):
        for question in some_questions(34, 40):
            if is_met(question, "nodes"):
                self.same(is_met(question, "edges"), True)

    def test_turned_questions(self):
        for question in some_questions(35, 25):
            back = question.turned()
            for condition in CONDITIONS:
                self.same(is_met(back, condition), is_met(question, condition))

    def test_more_loops_ask_for_more(self):
        for text in ("b b", "b", "b b?", "b+", "b*"):
            question = Question.read(ONE, text)
            more = question.over(ONE.with_loops(("a", "b")))
            told = [[is_met(one, condition) for condition in CONDITIONS] for one in (question, more)]
            self.assertTrue(all(one or not other for one, other in zip(*told)))
        self.same([is_met(TWICE, "edges"), is_met(TWICE.over(ONE.with_loops(("b",))), "edges")], [True, False])

    def test_long_words_alone(self):
        question = Question.read(ONE, "b*") - Question.of_words(ONE, (("n",) + ("b", "n") * 9,))
        for condition, edges in (("edges", 11), ("nodes", 11)):
            words = machine_words(question.machine, 10)
            self.assertFalse([word for word in words if plainly_wrong(question, word, condition)])
            self.same(is_met(question, condition), False)
            form, word, first, second = paper(question, condition)
            self.same([form, len(word) // 2, second - first], ["fails", edges, 2])
            self.assertIn((first, second), plainly_wrong(question, word, condition))
        self.same(is_met(question, "rings"), True)
        loops = Question.read(ONE, "a*") - Question.of_words(ONE, (("n",) + ("a", "n") * 8, ("n",) + ("a", "n") * 9))
        self.same([is_met(loops, "rings"), len(paper(loops, "edges")[1]) // 2], [True, 10])


class Demanded(Case):

    def test_by_hand(self):
        self.same([demanded(NEAR, "nodes"), least_table(NEAR, "nodes")], [((2, (1,)),), ((2, (1,)),)])
        self.same(demanded(NEAR, "edges"), ((2, (0, 1)),))
        self.same(least_table(NEAR, "edges"), ((2, (0, 1)),))
        self.same([demanded(NEAR, "rings"), least_table(NEAR, "rings")], [(), None])
        one = Question.read(ONE, "a b")
        self.same([demanded(one, "nodes"), least_table(one, "nodes")], [(), None])
        self.same([demanded(FAR, condition) for condition in CONDITIONS], [()] * 3)
        self.same([least_table(FAR, condition) for condition in CONDITIONS], [()] * 3)
        self.same([least_table(TWICE, condition) for condition in CONDITIONS], [(), (), None])

    def test_only_a_state_without_steps_to_it_is_left_ahead(self):
        # A first state to which steps lead, too: of the rows behind its row none is demanded.
        question = Question.read(ONE, "(a a)* b|a (a a)* b b")
        self.same(question.machine[2], ((0, "a", 1), (0, "b", 2), (1, "a", 0), (1, "b", 3), (3, "b", 2)))
        rows = ((0, (1,)), (1, (0,)), (2, (0,)), (2, (1,)), (3, (0,)), (3, (1,)))
        self.same([demanded(question, "nodes"), rows_after(question, (1, (0,)))], [rows, {(0, (1,)), (3, (2,))}])

    def test_by_the_rules(self):
        for question in some_questions(36, 60):
            for condition in CONDITIONS:
                rows = plainly_demanded(question, condition)
                self.same(demanded(question, condition), tuple(sorted(row for row in rows if row[1])))
                self.same(least_table(question, condition), plainly_least(question, condition))


class Papers(Case):

    def test_exactly_one_form(self):
        for question in some_questions(37, 50):
            for condition in CONDITIONS:
                told = paper(question, condition)
                self.same(is_paper(question, condition, told), True)
                least = plainly_least(question, condition)
                self.same(told[0], "fails" if least is None else "holds")
                if least is None:
                    _, word, first, second = told
                    self.assertIn(word, question)
                    self.assertIn((first, second), plainly_wrong(question, word, condition))
                    for table in ((), tuple(sorted(all_rows(question)))):
                        self.same(is_paper(question, condition, ("holds", table)), False)
                else:
                    self.same(told, ("holds", least))

    def test_shortest_words(self):
        for question in some_questions(38, 25):
            for condition in CONDITIONS:
                told = paper(question, condition)
                wrong = [w for w in machine_words(question.machine, 4) if plainly_wrong(question, w, condition)]
                if wrong:
                    self.same(len(told[1]), min(len(word) for word in wrong))

    def test_words_of_the_question_and_others_with_each_pair_of_numbers(self):
        for question in some_questions(39, 5):
            words = words_up_to(question.schema, 3)[:60]
            for condition in CONDITIONS:
                for word in words:
                    wrong = plainly_wrong(question, word, condition) if word in question else ()
                    for first in range(-1, len(word) // 2 + 2):
                        for second in range(-1, len(word) // 2 + 2):
                            told = is_paper(question, condition, ("fails", word, first, second))
                            self.same(told, (first, second) in wrong)

    def test_double_edges(self):
        # Of the words that a double edge leaves one or the other one is enough.
        double = ("n", "a", "n", "a", "n")
        for text, is_wrong in (("a a", True), ("a a?", False), ("a a|:n", False), ("(a a?)?", False), ("a a|b", True)):
            question = Question.read(ONE, text)
            self.same(is_paper(question, "edges", ("fails", double, 0, 1)), is_wrong)
            self.same(is_met(question, "edges"), not is_wrong)

    def test_holding_tables_that_are_near(self):
        chooser = random.Random(40)
        for question in some_questions(41, 14):
            rows = sorted(set(all_rows(question)))
            for condition in CONDITIONS:
                table = least_table(question, condition)
                if table is None:
                    table = ()
                near = [table] + [table[:at] + table[at + 1:] for at in range(len(table))] + [tuple(rows)]
                near += [tuple(sorted(set(table + (row,)))) for row in rows]
                near += [tuple(sorted(chooser.sample(rows, chooser.randrange(len(rows) + 1)))) for _ in range(5)]
                for told in near:
                    wanted = plainly_holds(question, condition, told)
                    self.same(is_paper(question, condition, ("holds", told)), wanted)
                for told in (table[::-1], table + table[-1:], list(table)):
                    if told != table:
                        self.same(is_paper(question, condition, ("holds", told)), False)

    def test_further_rows_and_idle_rows(self):
        right = ((2, (1,)),)
        self.same(is_paper(NEAR, "nodes", ("holds", right)), True)
        for more in ((0, (0,)), (1, (1,)), (2, (2,)), (0, (0, 1)), (1, (0, 1)), (2, (0, 2)), (2, (1, 2)), (2, (0, 1))):
            self.same(is_paper(NEAR, "nodes", ("holds", tuple(sorted(right + (more,))))), True)
        # A row whose state is last, or has a step, and whose others are not, or have none.
        for more in ((1, (0,)), (2, (0,)), (0, (1,)), (0, (2,)), (1, (2,))):
            wanted = plainly_holds(NEAR, "nodes", tuple(sorted(right + (more,))))
            self.same(is_paper(NEAR, "nodes", ("holds", tuple(sorted(right + (more,))))), wanted)
        self.same(is_paper(NEAR, "nodes", ("holds", right + ((2, (2,)),))), True)
        self.same(is_paper(NEAR, "nodes", ("holds", ((1, (2,)),) + right)), False)
        self.same(is_paper(NEAR, "nodes", ("holds", ())), False)
        self.same(is_paper(NEAR, "edges", ("holds", ((2, (0,)),))), False)

    def test_rows_that_are_none(self):
        right = (2, (1,))
        wrong = (
            (True, (1,)), (2, (True,)), (False, (0,)), (2, [1]), [2, (1,)], (2, (1, 1)), (2, (1, 0)), (2, ()), (2,),
            (2, (0, 1, 2)), (3, (1,)), (2, (3,)), (-1, (1,)), (2, (-1,)), (2, 1), 2, (2, (1,), ()), ("2", (1,)),
            (2, ("1",)), (2, (None,)), (None, (1,)), (2, None), (2, ((1,),)), {2: (1,)}, (2, {1: True}), (), "ab",
            (2, (0, True)), (2, (False, 1)),
        )
        for row in wrong + STRANGE:
            with self.subTest(row=row):
                self.same(is_paper(NEAR, "nodes", ("holds", (row,))), False)
                self.same(is_paper(NEAR, "nodes", ("holds", (right, row))), False)
                self.same(is_paper(NEAR, "nodes", ("holds", (row, right))), False)
        # States of another kind, although nothing else is wrong with these rows.
        two = Question.read(ROADS, ":city|:person|lives")
        self.same([two.machine[0], is_paper(two, "nodes", ("holds", ()))], [("city", "person"), True])
        for row, is_right in (((0, (0,)), True), ((1, (1,)), True), ((0, (1,)), False), ((0, (0, 1)), False)):
            self.same(is_paper(two, "nodes", ("holds", (row,))), is_right)
            self.same(is_paper(two, "edges", ("holds", (row,))), is_right)

    def test_rings_have_no_rows(self):
        self.same(is_paper(FAR, "rings", ("holds", ())), True)
        self.same(is_paper(TWICE, "rings", ("holds", ())), False)
        for table in (((0, (0,)),), [], None, 0, "", False, {}):
            self.same(is_paper(FAR, "rings", ("holds", table)), False)

    def test_other_values(self):
        right = ("fails", ("n", "b", "n", "b", "n"), 0, 2)
        self.same(is_paper(TWICE, "rings", right), True)
        wrong = STRANGE + (
            (), ("holds",), ("fails",), right[:3], right + (0,), list(right), ("Fails",) + right[1:], right[1:], 7, FAR,
            ("holds",) + right[1:], ("fails", ()), ("fails", right[1]), (None,) + right[1:], ("holds", (), ()),
            right[1], right[:2] + (2, 0), right[:2] + (False, 2), right[:2] + (0, 2, 2), right[:3] + (True,),
            right[:3] + ("2",), right[:3] + (None,), right[:2] + ((0,), 2), ("fails", HOME, 0, 2),
            right[:1] + (list(right[1]),) + right[2:],
            ("fails", ("n",), 0, 0), ("fails", right[1], 0, 1), ("fails", right[1], 1, 2), {"fails": right}, TWICE,
            ("fails", ("n", "a", "n", "a", "n"), 0, 2), ("way", ()), ("within", ()), ("none", ()),
        )
        for value in wrong:
            with self.subTest(value=value):
                self.same(is_paper(TWICE, "rings", value), False)
        for strange in STRANGE:
            for at in range(4):
                self.same(is_paper(TWICE, "rings", right[:at] + (strange,) + right[at + 1:]), False)
            self.same(is_paper(TWICE, "nodes", ("holds", strange)), False)
            self.same(is_paper(TWICE, "nodes", (strange, ())), False)
        self.same(is_paper(TWICE, "nodes", ("holds", ())), True)

    def test_words_of_any_size(self):
        long = ("n",) + ("a", "n") * 20001
        question = Question.read(ONE, "a (a a)*")
        self.same(is_paper(question, "nodes", ("fails", long, 1, 2)), True)
        self.same(is_paper(question, "nodes", ("fails", long, 1, 3)), False)
        self.same(is_paper(question, "edges", ("fails", long, 0, 1)), False)
        self.same(is_paper(question, "rings", ("fails", long, 0, 20001)), True)


class Large(Case):

    def test_many_states_kinds_and_labels(self):
        chooser = random.Random(42)
        begin = time.process_time()
        sizes = []
        for density in (0.05, 0.2, 0.6, 1.0):
            for loops in ((), FULL.labels[:4], FULL.labels):
                schema = FULL.with_loops(loops)
                kinds = FULL.kinds * 4
                ends = {kind: [at for at in range(24) if kinds[at] == kind] for kind in schema.kinds}
                steps = sorted(
                    (state, label, chooser.choice(ends[kind]))
                    for state in range(24) for label in schema.labels for kind in schema.kinds
                    if chooser.random() < density
                )
                question = Question.of_machine(schema, (kinds, tuple(range(6)), tuple(steps), tuple(range(12, 24))))
                sizes.append(len(question))
                for condition in CONDITIONS:
                    self.same(is_paper(question, condition, paper(question, condition)), True)
        for text in ("la? lb? lc?", "la la la", "(la|lb)* lc", "(la|lb|lc|ld|le|lf|lg|lh)+", "(la|:a lb :b)*"):
            question = Question.read(FULL, text)
            for condition in CONDITIONS:
                self.same(is_paper(question, condition, paper(question, condition)), True)
        self.same(max(sizes), 24)
        # It takes about a second; slow machines may take much longer.
        self.assertLess(time.process_time() - begin, 60)


class Wrong(Case):

    def test_first_wrong_argument_decides(self):
        wrong = ((InvalidQuestion, NO_QUESTIONS), (UnknownName, NO_CONDITIONS))
        for call in (is_met, demanded, least_table, paper):
            self.first_wrong_decides(call, (FAR, "nodes"), wrong)
        self.first_wrong_decides(is_paper, (FAR, "nodes", 7), wrong + ((None, ()),))

    def test_schemas_decide_by_their_own_loops(self):
        schema = Schema(("n",), {"a": (("n",), ("n",), False)})
        question = Question.read(schema, "a a")
        self.same([is_met(question, condition) for condition in CONDITIONS], [True, True, False])
        self.same([is_met(FRIENDS, condition) for condition in CONDITIONS], [True] * 3)
