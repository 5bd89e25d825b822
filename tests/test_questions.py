"""Questions: their least machines, what they tell, and what is made of them."""
import random

from tests.helpers import (
    FAR, FRIENDS, FULL, HOME, JUST, MIXED, MORE, NO_QUESTIONS, NO_SCHEMAS, NO_WORDS, ONE, ROADS, STRANGE, TWICE, Case,
)
from tests.reckoning import (
    joined_words, least_of_expression, least_of_machine, machine_words, some_expressions, some_machine, words_told,
    words_up_to,
)
from whichwalks.ask.expressions import read
from whichwalks.ask.questions import MAX_STATES, Question, is_machine
from whichwalks.base.schemas import Schema
from whichwalks.base.words import turned, words_of
from whichwalks.errors import (
    InvalidExpression, InvalidNumber, InvalidOperation, InvalidSchema, InvalidWord, ParseError, TooMany,
)

ALL = (ONE, ROADS, MIXED)
NO_EXPRESSIONS = STRANGE + ((), "a", 7, ("label", "c"), ("star", "a"), FAR, FAR.machine)
NO_MACHINES = STRANGE + ((), 7, "a", ONE, FAR, FAR.machine[:3], list(FAR.machine), FAR.machine + ((),))
EMPTY = ((), (), (), ())
# 24 states: the number of edges is told by the one ring of three and by the one of eight.
PERIODS = "(a a a)*|(a a a a a a a a)*"
# What stands fifth from the end is told by 32 states.
FIFTH = "(a|b)* a (a|b) (a|b) (a|b) (a|b)"


def row_machine(many):
    """A machine of a row of so many states; the word that leads through all of them is the only one."""
    steps = tuple((state, "a", state + 1) for state in range(many - 1))
    return ("n",) * many, (0,), steps, (many - 1,)


def row_word(edges):
    return ("n",) + ("a", "n") * edges


def spelled(*words):
    """The question with the words whose labels are the letters of these."""
    parts = [[part for label in word for part in (label, "n")] for word in words]
    return Question.of_words(ONE, tuple(("n", *one) for one in parts))


def some_questions(schema, seed, many=12):
    chooser = random.Random(seed)
    found = [Question(schema, one) for one in some_expressions(schema, chooser, 60)[::5]]
    found += [Question.of_machine(schema, some_machine(schema, chooser, 5)) for _ in range(5)]
    return found[:many]


class Least(Case):

    def test_machines_by_hand(self):
        told = (
            (ONE, "a*", (("n",), (0,), ((0, "a", 0),), (0,))),
            (ONE, "b b", (("n",) * 3, (0,), ((0, "b", 1), (1, "b", 2)), (2,))),
            (ONE, "a|b", (("n", "n"), (0,), ((0, "a", 1), (0, "b", 1)), (1,))),
            (ONE, "a a*", (("n", "n"), (0,), ((0, "a", 1), (1, "a", 1)), (1,))),
            (ONE, ":n", (("n",), (0,), (), (0,))),
            (ROADS, "knows? lives", (
                ("person", "person", "city"), (0,), ((0, "knows", 1), (0, "lives", 2), (1, "lives", 2)), (2,),
            )),
            (ROADS, "road|knows", (
                ("city", "person", "city", "person"), (0, 1), ((0, "road", 2), (1, "knows", 3)), (2, 3),
            )),
            (ROADS, "lives*", (("city", "person"), (0, 1), ((1, "lives", 0),), (0, 1))),
            (ROADS, "lives :person", EMPTY),
            (MIXED, "go", (
                ("k", "m", "m", "s"), (0, 1), ((0, "go", 2), (0, "go", 3), (1, "go", 2), (1, "go", 3)), (2, 3),
            )),
        )
        for schema, text, machine in told:
            with self.subTest(text=text):
                self.same(Question.read(schema, text).machine, machine)

    def test_numbers_ascend_by_label_and_kind_of_the_targets(self):
        # By the numbers of the targets the second step would stand first.
        schema = Schema(("x", "y"), {"p": (("x",), ("x", "y"), False), "q": (("x", "y"), ("x",), False)})
        question = Question.read(schema, ":x (q :x p|p :y q|p :x p p)")
        self.same(question.machine, least_of_expression(schema, read(schema, ":x (q :x p|p :y q|p :x p p)")))
        self.same(question.machine[0][:4], ("x", "x", "y", "x"))
        self.same([step for step in question.machine[2] if step[0] == 0], [(0, "p", 1), (0, "p", 2), (0, "q", 3)])

    def test_expressions(self):
        chooser = random.Random(6)
        for schema in ALL:
            for expression in some_expressions(schema, chooser, 90):
                question = Question(schema, expression)
                self.same(question.machine, least_of_expression(schema, expression))
                self.assertEqual(machine_words(question.machine, 4), words_told(schema, expression, 4))
                self.same(Question.of_machine(schema, question.machine).machine, question.machine)

    def test_machines_that_are_not_least(self):
        chooser = random.Random(7)
        for schema in ALL:
            for many in list(range(12)) * 6:
                machine = some_machine(schema, chooser, many)
                self.same(is_machine(schema, machine), True)
                question = Question.of_machine(schema, machine)
                self.same(question.machine, least_of_machine(machine))
                self.assertEqual(machine_words(question.machine, 4), machine_words(machine, 4))

    def test_machines_by_hand_that_are_not_least(self):
        told = (
            # States twice, and other numbers.
            (("n",) * 4, (3,), ((0, "a", 0), (1, "a", 0), (2, "a", 1), (3, "a", 2)), (0, 1, 2, 3)),
            # States that no word leads to.
            (("n", "n"), (1,), ((0, "a", 1), (0, "b", 0), (1, "a", 1)), (0, 1)),
            # States from which none leads on.
            (("n", "n", "n"), (0,), ((0, "a", 0), (0, "b", 1), (1, "a", 2), (2, "b", 1)), (0,)),
        )
        for machine in told:
            self.same(Question.of_machine(ONE, machine).machine, FAR.machine)
        a_loop = ((0, "a", 0),)
        for machine in (EMPTY, (("n",), (), (), (0,)), (("n",), (0,), a_loop, ()), (("n", "n"), (0,), (), (1,))):
            self.same(Question.of_machine(ONE, machine).machine, EMPTY)

    def test_words(self):
        chooser = random.Random(2)
        for schema in ALL:
            words = words_up_to(schema, 4)
            for many in (0, 1, 2, 3, 4, 5, 6, 7, 8, 9):
                told = tuple(chooser.choice(words) for _ in range(many))
                wanted = least_of_machine(machine_of_words(told))
                if len(wanted[0]) > 24:
                    self.refused(TooMany, Question.of_words, schema, told, kept=24)
                    continue
                question = Question.of_words(schema, told)
                self.assertEqual(machine_words(question.machine, 6), set(told))
                self.same(question.machine, wanted)
                self.same(question == Question.of_words(schema, tuple(sorted(told)) + told), True)
        self.same(Question.of_words(ONE, ()).machine, EMPTY)
        self.same(Question.of_words(ONE, (("n",),)).machine, (("n",), (0,), (), (0,)))

    def test_equal_questions_however_made(self):
        texts = ("(a|b)*", "(a* b*)*", "(b|a|a b)*", "((a|b)+)?", "(a b|a|b)* :n?", "(b* a)* b*", "(a?|b?)*")
        whole = Question.of_machine(ONE, (("n",), (0,), ((0, "a", 0), (0, "b", 0)), (0,)))
        for text in texts:
            self.same([Question.read(ONE, text) == whole, Question.read(ONE, text).machine], [True, whole.machine])
        self.same(Question.of_words(ONE, (("n", "b", "n", "b", "n"),)) == TWICE, True)
        self.same(Question(ONE, ("then", ("label", "b"), ("label", "b"))) == TWICE, True)


class Limits(Case):

    def test_as_many_states_as_can_be(self):
        told = (
            (ONE, PERIODS, 24), (ONE, "(a|b)* a (a|b) (a|b) (a|b)", 16), (ONE, " ".join(["a"] * 20), 21),
            (FULL, "la la la", 24), (FULL, "la? lb? lc?", 24),
        )
        for schema, text, states in told:
            self.same(len(Question.read(schema, text)), states)
        self.same(MAX_STATES, 24)

    def test_too_many_states_of_the_whole(self):
        told = ((ONE, "b (" + PERIODS + ")"), (ONE, FIFTH), (FULL, "la la la la"), (FULL, "la? lb? lc? ld?"))
        for schema, text in told:
            self.refused(TooMany, Question.read, schema, text, kept=24)
            self.refused(TooMany, Question, schema, read(schema, text), kept=24)

    def test_too_many_states_of_an_inner_expression(self):
        long = "b (" + PERIODS + ")"
        for text in ("(a|b)*|" + FIFTH, "(" + FIFTH + ")?|(a|b)*", "(a|b)*|" + long, long + "|(a|b)*"):
            self.refused(TooMany, Question.read, ONE, text, kept=24)
        # Here the inner one has just so many, and the whole one has few.
        self.same(len(Question.read(ONE, "(a|b)*|" + PERIODS)), 1)
        self.refused(TooMany, Question.read, FULL, ":a la la la la :b la :a|:c", kept=24)

    def test_words_with_many_edges(self):
        self.same(len(Question.of_words(ONE, (row_word(23),))), 24)
        self.same(len(Question.of_words(ONE, tuple(row_word(edges) for edges in range(24)))), 24)
        self.refused(TooMany, Question.of_words, ONE, (row_word(24),), kept=24)
        self.refused(TooMany, Question.of_words, ONE, (row_word(2), row_word(9999)), kept=24)
        two = (row_word(12), ("n",) + ("b", "n") * 12)
        self.same(len(Question.of_words(ONE, two)), 24)
        self.refused(TooMany, Question.of_words, ONE, two + (row_word(13),), kept=24)

    def test_many_words(self):
        six = Question.read(ONE, " ".join(["(a|b)"] * 6))
        self.same(Question.of_words(ONE, words_of(ONE, 6)) == six, True)
        many = words_of(JUST, 4)
        question = Question.of_words(JUST, many[::-1])
        self.same([len(question), question.words(4) == many, question.count(3)], [10, True, 0])

    def test_machines_with_many_states(self):
        self.same(len(Question.of_machine(ONE, row_machine(24))), 24)
        for many in (25, 26, 100):
            self.refused(TooMany, Question.of_machine, ONE, row_machine(many), kept=24)
        loops = (("n",) * 100, (0,), tuple((at, "a", (at + 1) % 100) for at in range(100)), tuple(range(0, 100, 5)))
        self.same(Question.of_machine(ONE, loops) == Question.read(ONE, "(a a a a a)*"), True)
        self.refused(TooMany, Question.of_machine, ONE, loops[:3] + ((0, 1),), kept=24)

    def test_operators(self):
        three, eight = Question.read(ONE, "(a a a)*"), Question.read(ONE, "(a a a a a a a a)*")
        nine = three + Question.read(ONE, "b (a a a a a a a a)*")
        self.same([len(three | eight), len(three & eight), len(three - eight), len(nine)], [24, 24, 24, 11])
        for many in (11, 13):
            first = Question.of_machine(ONE, row_machine(many))
            self.refused(TooMany, lambda: first + Question.of_machine(ONE, row_machine(26 - many)), kept=24)
            self.same(len(first + Question.of_machine(ONE, row_machine(25 - many))), 24)
        other = Question.read(ONE, "(b b b b b)*")
        self.refused(TooMany, lambda: (three | eight) | other, kept=24)
        self.refused(TooMany, lambda: Question.read(ONE, "(a|b)*") - (three | eight), kept=24)
        seven = Question.read(ONE, "(a a a a a a a)*")
        self.refused(TooMany, lambda: seven & eight, kept=24)
        self.refused(TooMany, lambda: seven - eight, kept=24)
        self.refused(TooMany, lambda: seven | eight, kept=24)

    def test_starred(self):
        just = spelled("aab", "aa", "a", "bbabab", "babbabaa")
        self.same([len(just), len(just.starred())], [15, 24])
        more = spelled("abaaaa", "aaaaab", "ba", "baa")
        self.same([len(more), len(least_of_machine(starred_net(more.machine))[0])], [13, 25])
        self.refused(TooMany, more.starred, kept=24)
        row = Question.of_words(ONE, (row_word(22) + ("b", "n"),))
        self.same([len(row), len(row.starred())], [24, 23])
        pair = Question.of_words(FULL, tuple((kind, "la", "a") for kind in "abcdef"))
        self.same([len(pair), len(pair.starred())], [7, 6])

    def test_turned(self):
        # Turned, what stands fifth is what stands fifth from the end, which is told by many states.
        front = Question.read(ONE, "(a|b) (a|b) (a|b) (a|b) a (a|b)*")
        self.same(len(front), 6)
        self.refused(TooMany, front.turned, kept=24)
        self.same(len(Question.read(ONE, "(a|b) (a|b) (a|b) a (a|b)*").turned()), 16)
        just = spelled("b", "abaaabbbba", "ab", "aaababbaa", "babbaaaba")
        self.same([len(just), len(just.turned())], [23, 24])
        more = spelled("b", "baabbbbaa", "bbbaaabaaa", "abbbaaaaba", "bb")
        self.same(len(more), 24)
        self.refused(TooMany, more.turned, kept=24)

    def test_many_sets_of_states_that_are_alike(self):
        # Each set of states of the second machine is met, 2 ** 23 of them, but all words are taken ever again.
        many = 24
        steps = tuple(sorted(
            [(at, "a", (at + 1) % many) for at in range(many)] + [(at, "b", at if at % 3 else 0) for at in range(many)]
        ))
        hard = Question.of_machine(ONE, (("n",) * many, (0,), steps, (0, 1, 5, 7, 11, 18)))
        whole = Question.read(ONE, "(a|b)*")
        self.same([len(hard), whole + hard == whole, hard + whole == whole, hard.starred() == whole], [24] + [True] * 3)


def machine_of_words(words):
    """The machine of a tree of the words: a state for each beginning of one."""
    begins = sorted({word[:size] for word in words for size in range(1, len(word) + 1, 2)})
    numbers = {begin: at for at, begin in enumerate(begins)}
    steps = [(numbers[begin[:-2]], begin[-2], numbers[begin]) for begin in begins if len(begin) > 1]
    firsts = tuple(numbers[begin] for begin in begins if len(begin) == 1)
    lasts = tuple(sorted(numbers[word] for word in set(words)))
    return tuple(begin[-1] for begin in begins), firsts, tuple(sorted(steps)), lasts


def starred_net(machine):
    """A net of a starred machine, whose first states are all new and last."""
    kinds, firsts, steps, lasts = machine
    begins = {kinds[state]: state for state in firsts}
    again = [(at, label, begins[kinds[to]]) for at, label, to in steps if to in lasts and kinds[to] in begins]
    return kinds + ("n",), firsts + (len(kinds),), steps + tuple(again), lasts + (len(kinds),)


class Told(Case):

    def test_properties(self):
        self.same([FRIENDS.schema == ROADS, FRIENDS.firsts, FAR.firsts], [True, {"person": 0}, {"n": 0}])
        self.same(Question.read(MIXED, "go*").firsts, {"k": 0, "m": 1, "s": 2})
        self.same([len(TWICE), len(FAR), str(TWICE), str(FAR), str(Question.of_words(ONE, ()))], [
            3, 1, "question of 3 states, 2 steps", "question of 1 states, 1 steps", "question of 0 states, 0 steps",
        ])
        self.same([bool(FAR), bool(FAR & TWICE), bool(Question.read(ROADS, "lives road lives"))], [True, False, False])
        for name in ("schema", "machine", "firsts"):
            with self.assertRaises(AttributeError):
                setattr(FAR, name, ())

    def test_a_dict_that_its_caller_changes_changes_nothing(self):
        question = Question.read(ROADS, "knows* lives")
        firsts = question.firsts
        firsts["person"] = 1
        firsts["city"] = 7
        self.same(question.firsts, {"person": 0})
        self.same([question.state(HOME), HOME in question, question == FRIENDS], [1, True, True])

    def test_passed_tuples_and_schemas_stay(self):
        words = (HOME, HOME[2:])
        self.same(Question.of_words(ROADS, words).words(1), (HOME[2:],))
        self.same(words, (HOME, HOME[2:]))

    def test_contained(self):
        for schema in ALL:
            words = words_up_to(schema, 4)
            for question in some_questions(schema, 11):
                told = machine_words(question.machine, 4)
                for word in words:
                    self.assertIs(word in question, word in told)
        for value in NO_WORDS + (HOME, FAR):
            self.same([value in FAR, value in Question.read(ONE, "(a|b)*")], [False, False])
        self.same([list(HOME) in FRIENDS, HOME in FRIENDS], [False, True])
        self.same([row_word(50000) in FAR, row_word(50000) + ("b", "n") in FAR], [True, False])

    def test_states(self):
        self.same([TWICE.state(("n",)), TWICE.state(("n", "b", "n")), TWICE.state(("n", "a", "n"))], [0, 1, None])
        self.same([FRIENDS.state(HOME), FRIENDS.state(("city",)), FRIENDS.state(HOME[:3])], [1, None, 0])
        for schema in ALL:
            for question in some_questions(schema, 12):
                kinds, firsts, steps, _ = question.machine
                for word in words_up_to(schema, 3):
                    at = [state for state in firsts if kinds[state] == word[0]]
                    for place in range(1, len(word), 2):
                        at = [to for source, label, to in steps
                              if source in at and (label, kinds[to]) == word[place:place + 2]]
                    self.same(question.state(word), at[0] if at else None)

    def test_targets(self):
        for schema in ALL:
            for question in some_questions(schema, 13):
                kinds, _, steps, _ = question.machine
                for state in range(len(question)):
                    for label in schema.labels + schema.kinds + ("x",):
                        for kind in schema.kinds + schema.labels + ("x",):
                            wanted = [to for at, name, to in steps if (at, name, kinds[to]) == (state, label, kind)]
                            self.same(question.target(state, label, kind), wanted[0] if wanted else None)
        for value in STRANGE + (7, ("a",), ONE):
            self.same([FAR.target(0, value, "n"), FAR.target(0, "a", value), FAR.target(0, value, value)], [None] * 3)
        for value in STRANGE + (1, -1, 7, "0", (0,), ONE):
            if value is not False:
                self.refused(InvalidNumber, FAR.target, value, "a", "n", kept=value)
                self.refused(InvalidNumber, FAR.target, value, 7, [], kept=value)
        self.refused(InvalidNumber, FAR.target, False, "a", "n", kept=False)
        self.refused(InvalidNumber, TWICE.target, True, "b", "n", kept=True)

    def test_words_of_sizes(self):
        for schema in ALL:
            for question in some_questions(schema, 14):
                told = machine_words(question.machine, 4)
                for size in range(5):
                    wanted = sorted(word for word in told if len(word) // 2 == size)
                    self.same(question.words(size), tuple(wanted))
                    self.same(question.count(size), len(wanted))
                for size in (5, 6):
                    words = question.words(size)
                    self.same(words, tuple(sorted(set(words))))
                    self.same(len(words), question.count(size))
                    self.assertTrue(all(word in question and len(word) == 2 * size + 1 for word in words))

    def test_counts(self):
        whole = Question.read(ONE, "(a|b)*")
        self.same([whole.count(size) for size in range(401)], [2 ** size for size in range(401)])
        self.same([TWICE.count(size) for size in range(401)], [0, 0, 1] + [0] * 398)
        fibonacci = [1, 1]
        while len(fibonacci) < 401:
            fibonacci.append(fibonacci[-1] + fibonacci[-2])
        question = Question.read(ONE, "(a|b a)* b?")
        self.same([question.count(size) for size in range(400)], fibonacci[1:])
        self.same(Question.read(FULL, "(la|lb|lc|ld|le|lf|lg|lh)*").count(400), 6 * 48 ** 400)

    def test_wrong_sizes(self):
        for size in STRANGE + ("3", -1, (3,), [3], ONE):
            for call in (FAR.words, FAR.count):
                self.refused(InvalidNumber, call, size, kept=size)
        self.refused(InvalidNumber, FAR.words, 7, kept=7)
        self.refused(InvalidNumber, FAR.count, 401, kept=401)
        self.refused(InvalidNumber, Question.read(FULL, "la*").words, 7, kept=7)

    def test_too_many_words(self):
        labels = "(" + "|".join(JUST.labels) + ")"
        question = Question.read(JUST, labels + "*")
        self.same([len(question.words(4)), question.words(4) == words_of(JUST, 4)], [20000, True])
        self.refused(TooMany, question.words, 5, kept=20000)
        other = Question.read(MORE, "(" + "|".join(MORE.labels) + ")*")
        self.same(other.count(4), 20001)
        self.refused(TooMany, other.words, 4, kept=20000)
        self.refused(TooMany, Question.read(FULL, "(la|lb|lc|ld|le|lf|lg|lh)*").words, 6, kept=20000)

    def test_shortest(self):
        for schema in ALL:
            for question in some_questions(schema, 15, 40):
                told = machine_words(question.machine, 6)
                self.same(question.shortest(), min(told, key=lambda word: (len(word), word)) if told else None)
        # The first kind, the first label and the first kind of a target decide, in this order.
        self.same(Question.read(MIXED, "up in|in up|go").shortest(), ("k", "go", "m"))
        self.same(Question.read(MIXED, "up :s in|in up :m").shortest(), ("k", "up", "s", "in", "k"))
        self.same(Question.read(MIXED, "(go|up) :s|(go|up) :m").shortest(), ("k", "go", "m"))
        self.same(Question.of_words(ONE, (row_word(23),)).shortest(), row_word(23))
        self.same(Question.of_words(ONE, ()).shortest(), None)

    def test_equality_accepts_every_value(self):
        for value in STRANGE + (7, FAR.machine, ("star", ("label", "a")), ONE, TWICE, FRIENDS):
            self.same([FAR == value, FAR != value, value == FAR, value != FAR], [False, True, False, True])
        other = Question.read(ONE.with_loops(()), "a*")
        self.same([FAR == other, FAR != other, FAR.machine == other.machine], [False, True, True])
        self.same([FAR == Question.read(ONE, "(a a*)?"), FAR != Question.read(ONE, "(a a*)?")], [True, False])

    def test_no_iteration(self):
        for call in (iter, list, tuple, sorted, set, enumerate, reversed, lambda one: [*one]):
            with self.assertRaises(TypeError):
                call(FAR)


class Derived(Case):

    def setUp(self):
        self.before = [(one.machine, one.firsts, str(one.schema)) for one in (FAR, TWICE, FRIENDS)]

    def tearDown(self):
        self.same([(one.machine, one.firsts, str(one.schema)) for one in (FAR, TWICE, FRIENDS)], self.before)

    def test_operators_against_words(self):
        for schema in ALL:
            questions = some_questions(schema, 21)
            for one in questions:
                ones = machine_words(one.machine, 4)
                for other in questions:
                    others = machine_words(other.machine, 4)
                    for made, words in (
                        (one | other, ones | others), (one & other, ones & others), (one - other, ones - others),
                        (one + other, joined_words(ones, others, 4)),
                    ):
                        self.assertEqual(machine_words(made.machine, 4), words)
                        self.same(made.machine, least_of_machine(made.machine))
                        self.assertTrue(made.schema == schema)

    def test_starred_against_words(self):
        for schema in ALL:
            for question in some_questions(schema, 22):
                ones = machine_words(question.machine, 4)
                many = set(words_of(schema, 0))
                for _ in range(5):
                    many |= joined_words(many, ones, 4)
                made = question.starred()
                self.assertEqual(machine_words(made.machine, 4), many)
                self.same(made.machine, least_of_machine(made.machine))
                self.same(made.starred() == made, True)

    def test_turned_against_words(self):
        for schema in ALL:
            for question in some_questions(schema, 23):
                made = question.turned()
                self.assertTrue(made.schema == schema.turned())
                told = {turned(schema, word) for word in machine_words(question.machine, 4)}
                self.assertEqual(machine_words(made.machine, 4), told)
                self.same(made.machine, least_of_machine(made.machine))
                self.same(made.turned() == question, True)

    def test_over(self):
        labels = {label: ROADS[label] for label in ROADS.labels}
        wide = Schema(ROADS.kinds + ("town",), {**labels, "sees": (("person",), ("town",), False)})
        made = FRIENDS.over(wide)
        self.same([made.machine == FRIENDS.machine, made.schema == wide, made == FRIENDS], [True, True, False])
        self.same([made.over(ROADS) == FRIENDS, made == Question.read(wide, "knows* lives")], [True, True])
        self.same(FRIENDS.over(ROADS.with_loops(())).machine, FRIENDS.machine)
        for schema in (ONE, ROADS.turned(), ROADS.renamed({"knows": "meets"}), ROADS.renamed({"city": "town"})):
            self.refused(InvalidOperation, FRIENDS.over, schema)
        # Not all of the empty words of the kinds of the one schema are words of the other one.
        self.refused(InvalidOperation, Question.read(wide, ":town").over, ROADS)
        self.same(Question.read(wide, ":city").over(ROADS) == Question.read(ROADS, ":city"), True)
        self.same(Question.of_words(ROADS, ()).over(ONE) == Question.of_words(ONE, ()), True)
        for schema in NO_SCHEMAS:
            self.refused(InvalidSchema, FRIENDS.over, schema)

    def test_operators_by_hand(self):
        short = Question.read(ONE, "a?")
        self.same([(short + short) == Question.read(ONE, "a? a?"), (FAR - short).shortest()], [True, row_word(2)])
        self.same([FAR | TWICE == Question.read(ONE, "b b|a*"), (FAR & TWICE).machine], [True, EMPTY])
        self.same([short.starred() == FAR, (FAR - FAR).machine, FRIENDS.turned() == FRIENDS], [True, EMPTY, False])
        self.same(FRIENDS.turned() == Question.read(ROADS.turned(), "lives knows*"), True)
        nothing = FAR - FAR
        self.same([nothing + FAR == nothing, FAR + nothing == nothing, nothing | FAR == FAR], [True, True, True])
        self.same(nothing.starred() == Question.read(ONE, ":n"), True)

    def test_other_operands(self):
        for value in NO_QUESTIONS + (FRIENDS, Question.read(ONE.with_loops(()), "a*")):
            self.refused(InvalidOperation, lambda: FAR | value)
            self.refused(InvalidOperation, lambda: FAR & value)
            self.refused(InvalidOperation, lambda: FAR - value)
            self.refused(InvalidOperation, lambda: FAR + value)
        for value in NO_QUESTIONS:
            self.refused(InvalidOperation, lambda: value | FAR)
            self.refused(InvalidOperation, lambda: value & FAR)
            self.refused(InvalidOperation, lambda: value - FAR)
            self.refused(InvalidOperation, lambda: value + FAR)

    def test_another_operand_ahead_of_too_many(self):
        big = Question.read(ONE, PERIODS)
        self.refused(InvalidOperation, lambda: big + FRIENDS)
        self.refused(TooMany, lambda: big + Question.read(ONE, "b a"), kept=24)


class Machines(Case):

    def setUp(self):
        # Each clause of [5.1] is broken by itself below.
        self.right = (("k", "m", "m", "s"), (0, 1), ((0, "go", 1), (0, "go", 3), (0, "up", 1), (2, "go", 2)), (1, 2, 3))

    def changed(self, at, part):
        return self.right[:at] + (part,) + self.right[at + 1:]

    def test_right_ones(self):
        self.same(is_machine(MIXED, self.right), True)
        self.same(is_machine(ONE, EMPTY), True)
        for question in some_questions(MIXED, 31):
            self.same(is_machine(MIXED, question.machine), True)
        for at, part in (
            (1, ()), (1, (2,)), (1, (0, 2, 3)), (2, ()), (3, ()), (3, (0,)), (2, ((0, "go", 1), (1, "go", 1))),
            (2, ((0, "go", 1), (0, "up", 2), (1, "go", 2))), (2, ((0, "go", 2), (0, "up", 1))),
        ):
            self.same(is_machine(MIXED, self.changed(at, part)), True)

    def test_kinds(self):
        for kinds in (
            ("k", "m", "m", "go"), ("k", "m", "m", "x"), ("k", "m", "m", None), ("k", "m", "m", 1), ("k", "m", "m"),
            list(self.right[0]), "kmms", ("k", "m", "s", "s"), (("k",), "m", "m", "s"), ("k", "m", "m", ["s"]), {},
        ):
            self.same(is_machine(MIXED, self.changed(0, kinds)), False)

    def test_firsts(self):
        for firsts in (
            (1, 0), (0, 0), (1, 2), (0, 1, 2), (0, 4), (-1, 0), (False, 1), (True,), (False,), [0, 1], (0, "1"),
            (0, None), ((0,), 1), 0, "01", {0: 1}, (0, 10 ** 60),
        ):
            with self.subTest(firsts=firsts):
                self.same(is_machine(MIXED, self.changed(1, firsts)), False)

    def test_lasts(self):
        for lasts in ((2, 1), (1, 1), (4,), (-1,), (True,), (False,), [1, 2], (1, "2"), (None,), 3, "123", {}, ((1,),)):
            with self.subTest(lasts=lasts):
                self.same(is_machine(MIXED, self.changed(3, lasts)), False)

    def test_steps(self):
        for steps in (
            # Not ascending, or twice.
            ((0, "up", 1), (0, "go", 1)), ((2, "go", 2), (0, "go", 1)), ((0, "go", 1), (0, "go", 1)),
            # Two of a state with one label and kind of target.
            ((0, "go", 1), (0, "go", 2)), ((0, "go", 1), (0, "go", 2), (0, "go", 3)),
            # Labels that do not fit, or are none.
            ((0, "in", 1),), ((1, "go", 0),), ((3, "go", 1),), ((0, "x", 1),), ((0, "k", 1),), ((0, None, 1),),
            ((0, ["go"], 1),), ((0, ("go",), 1),), ((0, 1, 1),),
            # States that are none.
            ((4, "go", 1),), ((0, "go", 4),), ((-1, "go", 1),), ((0, "go", -1),), ((False, "go", 1),),
            ((0, "go", True),), ((0, "go", "1"),), (("0", "go", 1),), ((None, "go", 1),), ((0, "go", (1,)),),
            # No triples, no tuples.
            ((0, "go"),), ((0, "go", 1, 1),), ([0, "go", 1],), [(0, "go", 1)], (0, "go", 1), ("go",), 7, None, {},
            "", ((),),
        ):
            with self.subTest(steps=steps):
                self.same(is_machine(MIXED, self.changed(2, steps)), False)

    def test_no_tuples_of_four(self):
        for value in NO_MACHINES:
            self.same(is_machine(ONE, value), False)
        self.same([is_machine(MIXED, list(self.right)), is_machine(MIXED, self.right[::-1])], [False, False])

    def test_another_schema(self):
        self.same([is_machine(ONE, self.right), is_machine(MIXED.turned(), self.right)], [False, False])
        self.same(is_machine(MIXED.with_loops(()), self.right), True)

    def test_numbers_of_states(self):
        for many in (1, 24, 25, 99, 100):
            self.same(is_machine(ONE, row_machine(many)), True)
        for many in (101, 102, 1000):
            self.same(is_machine(ONE, row_machine(many)), False)
            self.refused(InvalidOperation, Question.of_machine, ONE, row_machine(many))


class Wrong(Case):

    def test_first_wrong_argument_decides(self):
        schemas = (InvalidSchema, NO_SCHEMAS)
        self.first_wrong_decides(Question, (ONE, ("label", "a")), (schemas, (InvalidExpression, NO_EXPRESSIONS)))
        no_texts = (InvalidOperation, (7, None, True, ["a"], FAR, {}))
        self.first_wrong_decides(Question.read, (ONE, "a"), (schemas, no_texts))
        self.first_wrong_decides(
            Question.of_words, (ONE, (("n",),)), (schemas, (InvalidOperation, (7, None, "n", [("n",)], {}, FAR))),
        )
        self.first_wrong_decides(Question.of_machine, (ONE, EMPTY), (schemas, (InvalidOperation, NO_MACHINES)))
        self.first_wrong_decides(is_machine, (ONE, EMPTY), (schemas, (None, ())))
        self.first_wrong_decides(FAR.state, (("n",),), ((InvalidWord, NO_WORDS + (HOME,)),))
        no_states = (InvalidNumber, (1, -1, True, "a", (0,)))
        self.first_wrong_decides(FAR.target, (0, "a", "n"), (no_states, (None, ()), (None, ())))

    def test_words_that_are_none(self):
        for value in NO_WORDS + (HOME,):
            self.refused(InvalidWord, Question.of_words, ONE, (value,))
            self.refused(InvalidWord, Question.of_words, ONE, (("n",), row_word(99), value))
            self.refused(InvalidWord, Question.of_words, ONE, (value, ("n",)))

    def test_texts(self):
        self.refused(ParseError, Question.read, ONE, "a b)", kept=3)
        self.refused(ParseError, Question.read, ONE, "", kept=0)
        self.refused(TooMany, Question.read, ONE, " ".join(["a"] * 21), kept=40)
        self.refused(TooMany, Question.read, ONE, FIFTH, kept=24)
        self.refused(ParseError, Question.read, ONE, FIFTH + ")", kept=len(FIFTH))
        self.refused(InvalidExpression, Question, ROADS, ("label", "a"))

    def test_a_question_is_none_of_an_expression(self):
        self.refused(InvalidExpression, Question, ONE, FAR)
