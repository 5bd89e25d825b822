"""Two questions by two readings, against plain search in graphs and by wider questions, and cover papers."""
import random

from tests.helpers import FAR, FRIENDS, MIXED, NO_QUESTIONS, ONE, ROADS, STRANGE, TWICE, Case, attempt, some_graph
from tests.reckoning import machine_words, some_expressions, some_machine
from tests.test_closures import BARE, all_cut_words, cut_words
from tests.test_readings import pairs_by_search
from tests.test_ways import NO_READINGS
from whichwalks.ask.compare import is_within, within_paper
from whichwalks.ask.questions import Question
from whichwalks.base.words import words_of
from whichwalks.close.across import cover_paper, is_cover_paper, is_covered
from whichwalks.close.closures import wider
from whichwalks.cut.cuts import CONDITIONS
from whichwalks.cut.drawings import drawn_of
from whichwalks.cut.readings import between
from whichwalks.errors import InvalidOperation, InvalidQuestion, TooMany, UnknownName
from whichwalks.graph.ways import READINGS, way

ALL = (ONE, BARE, ONE.with_loops(("a", "b")), ROADS, MIXED, MIXED.with_loops(()))
BB = ("n", "b", "n", "b", "n")
BBB = BB + ("b", "n")
THRICE = Question.read(ONE, "b b b")


def around(many):
    """Over a schema with loops: one edge, and each number of edges more around so many states."""
    steps = tuple((state, "b", (state + 1) % many) for state in range(many))
    return Question.of_machine(ONE, (("n",) * many, (0,), steps, (1,)))


def some_word(schema, chooser, size):
    """A word with at most so many edges, chosen without order; it ends early where no edge leads on."""
    word = (chooser.choice(schema.kinds),)
    for _ in range(size):
        ahead = [(label, other) for kind, label, other in schema.steps() if kind == word[-1]]
        word += chooser.choice(ahead) if ahead else ()
    return word


def whole_machine(schema):
    """The machine with all words of the schema."""
    states = tuple(range(len(schema.kinds)))
    steps = ((schema.kinds.index(kind), label, schema.kinds.index(other)) for kind, label, other in schema.steps())
    return schema.kinds, states, tuple(sorted(steps)), states


def is_let(schema, reading, by):
    return (reading, by) != ("walk", "trail") or not schema.loops


def asked_conditions(reading, by):
    return between(reading, by) if READINGS.index(reading) < READINGS.index(by) else ()


def some_pairs(seed, many):
    """Pairs of questions of one schema; the second one often has the words of the first one, and more."""
    chooser = random.Random(seed)
    for schema in ALL:
        told = [Question(schema, one) for one in some_expressions(schema, chooser, 14)[len(schema.labels):]]
        told += [Question.of_machine(schema, some_machine(schema, chooser, 4)) for _ in range(8)]
        for _ in range(many):
            one, other = chooser.choice(told), chooser.choice(told)
            kind = chooser.randrange(4)
            if kind == 1:
                other = one
            elif kind > 1:
                try:
                    other = one | (other if kind == 2 else wider(one, ("nodes", "rings")))
                except TooMany:
                    other = one
            yield one, other


class Covered(Case):

    def test_by_hand(self):
        self.same([is_covered(TWICE, "walk", TWICE, "simple"), is_covered(TWICE, "walk", TWICE, "acyclic")], [True, False])
        self.same([is_covered(TWICE, "acyclic", FAR, "walk"), is_covered(FAR, "acyclic", FAR, "walk")], [False, True])
        self.same(is_covered(TWICE, "simple", Question.read(ONE, ":n|b b"), "acyclic"), True)
        self.same(is_covered(THRICE, "trail", Question.read(ONE, "b|b b b"), "simple"), True)
        self.same(is_covered(THRICE, "trail", Question.read(ONE, "b|b b"), "simple"), False)
        self.same(is_covered(THRICE, "trail", Question.read(ONE, "b|b b"), "trail"), False)
        self.same(is_covered(FRIENDS, "walk", FRIENDS, "acyclic"), True)
        none = Question.of_words(ONE, ())
        for reading in READINGS:
            for by in READINGS:
                if is_let(ONE, reading, by):
                    self.same([is_covered(none, reading, none, by), is_covered(FAR, reading, none, by)], [True, False])

    def test_in_graphs(self):
        chooser = random.Random(91)
        counted = {True: 0, False: 0}
        for one, other in some_pairs(92, 8):
            graphs = [some_graph(one.schema, chooser, chooser.randrange(1, 4), chooser.randrange(6)) for _ in range(3)]
            pairs = [[{reading: pairs_by_search(asked, graph, reading) for reading in READINGS} for asked in (one, other)]
                     for graph in graphs]
            for reading in READINGS:
                for by in READINGS:
                    if is_let(one.schema, reading, by):
                        told = is_covered(one, reading, other, by)
                        counted[told] += 1
                        if told:
                            self.assertTrue(all(first[reading] <= second[by] for first, second in pairs))
        self.assertTrue(all(many > 100 for many in counted.values()), counted)

    def test_by_wider_questions(self):
        for one, other in some_pairs(93, 6):
            for reading in READINGS:
                for by in READINGS:
                    if is_let(one.schema, reading, by):
                        wanted = is_within(wider(one, asked_conditions(reading, by)), other)
                        self.same(is_covered(one, reading, other, by), wanted)

    def test_beyond_in_the_drawing(self):
        counted = 0
        for one, other in some_pairs(94, 8):
            for reading in READINGS:
                for by in READINGS:
                    if not is_let(one.schema, reading, by):
                        continue
                    told = cover_paper(one, reading, other, by)
                    self.same(told[0] == "within", is_covered(one, reading, other, by))
                    if told[0] == "beyond":
                        _, word, condition, cuts = told
                        graph, start, end = drawn_of(one.schema, word, condition or "nodes", cuts)
                        self.assertIsNot(way(one, graph, reading, start, end), None)
                        self.same(way(other, graph, by, start, end), None)
                        if len(graph.edges) < 7:
                            counted += condition is not None
                            self.assertIn((start, end), pairs_by_search(one, graph, reading))
                            self.assertNotIn((start, end), pairs_by_search(other, graph, by))
        self.assertGreater(counted, 30)

    def test_a_question_with_itself(self):
        # By readings that agree, and by a narrower one of a wider one, each question is covered by itself.
        for one, _ in some_pairs(95, 4):
            for at, reading in enumerate(READINGS):
                self.assertTrue(all(is_covered(one, reading, one, by) for by in READINGS[:at + 1]))


class Papers(Case):

    def test_right_ones(self):
        for one, other in some_pairs(96, 6):
            for reading in READINGS:
                for by in READINGS:
                    if is_let(one.schema, reading, by):
                        told = cover_paper(one, reading, other, by)
                        self.same(is_cover_paper(one, reading, other, by, told), True)
                        whole = wider(one, asked_conditions(reading, by))
                        paper = within_paper(whole, other)
                        self.same(is_cover_paper(one, reading, other, by, paper), paper[0] == "within")
                        if told[0] == "within":
                            self.same(told, paper)

    def test_each_word_and_its_cuts(self):
        counted = 0
        for one, other in some_pairs(97, 4):
            words = sorted(machine_words(one.machine, 4))[:6] + sorted(machine_words(other.machine, 3))[:4]
            for reading in READINGS:
                for by in READINGS:
                    if not is_let(one.schema, reading, by):
                        continue
                    conditions = asked_conditions(reading, by)
                    for word in words:
                        for condition, cuts, left in all_cut_words(one.schema, word, CONDITIONS):
                            wanted = word in one and condition in conditions and left not in other
                            counted += wanted
                            value = ("beyond", word, condition, cuts)
                            self.same(is_cover_paper(one, reading, other, by, value), wanted)
                        wanted = word in one and word not in other
                        self.same(is_cover_paper(one, reading, other, by, ("beyond", word, None, ())), wanted)
        self.assertGreater(counted, 200)

    def test_words_are_as_short_as_any(self):
        for one, other in some_pairs(98, 4):
            words = sorted(machine_words(one.machine, 4), key=len)
            for reading, by in (("walk", "acyclic"), ("trail", "simple"), ("simple", "acyclic"), ("simple", "walk")):
                told = cover_paper(one, reading, other, by)
                beyond = [
                    len(word) for word in words if word not in other or any(
                        left not in other for _, _, left in all_cut_words(one.schema, word, asked_conditions(reading, by)))
                ]
                if beyond:
                    self.same(len(told[1]), min(beyond))
                else:
                    self.assertTrue(told[0] == "within" or len(told[1]) > 8)

    def test_the_shortest_of_several_words(self):
        every = Question.read(ONE, "(a|b)*")
        for text, lacking, wanted in (
            # Of many edges one is cut away, or of few ones several: all edges of the word are counted.
            ("a b b b b b b|b b a a a", "b b b b b b|b b", "b b a a a"),
            ("a b b b b b|a b b b b b a", "b b b b b|a a", "a b b b b b"),
        ):
            told = cover_paper(Question.read(ONE, text), "trail", every - Question.read(ONE, lacking), "simple")
            self.same([" ".join(told[1][1::2]), told[2]], [wanted, "nodes"])
        one, other = Question.read(ONE, ":n|b b"), Question.read(ONE, "b b")
        self.same(cover_paper(one, "trail", other, "simple"), ("beyond", ("n",), None, ()))
        one, other = Question.read(ONE, "b b b|b b"), Question.read(ONE, "b b b|b b")
        self.same(cover_paper(one, "trail", other, "acyclic"), ("beyond", BB, "rings", ((0, 2),)))
        every = Question.read(ROADS, "(road|knows|lives)*")
        one, other = Question.read(ROADS, "lives road|road road road"), every - Question.read(ROADS, "lives|:city")
        word = ("person", "lives", "city", "road", "city")
        self.same(cover_paper(one, "trail", other, "acyclic"), ("beyond", word, "nodes", ((1, 2),)))

    def test_words_beyond_themselves_have_no_cuts(self):
        self.same(is_cover_paper(TWICE, "walk", FAR, "acyclic", ("beyond", BB, None, ())), True)
        for cuts in (((0, 2),), [], None, ((),), (None,)):
            self.same(is_cover_paper(TWICE, "walk", FAR, "acyclic", ("beyond", BB, None, cuts)), False)

    def test_each_clause_broken_by_itself(self):
        right = ("beyond", BB, "rings", ((0, 2),))
        self.same(is_cover_paper(TWICE, "walk", TWICE, "acyclic", right), True)
        for value in (
            list(right), ("Beyond",) + right[1:], ("within",) + right[1:], right[1:], right[:3], right + ((),),
            ("beyond", list(BB), "rings", ((0, 2),)), ("beyond", BBB, "rings", ((0, 3),)),
            ("beyond", BB, "rings", [(0, 2)]), ("beyond", BB, "rings", ([0, 2],)), ("beyond", BB, "rings", ((False, 2),)),
            ("beyond", BB, "rings", (0, 2)), ("beyond", BB, "rings", ()), ("beyond", BB, None, ((0, 2),)),
            ("beyond", BB, None, ()), ("beyond", BB, "rings", None), ("beyond", BB, "nodes", ((0, 2),)),
            ("beyond", BB, "rings", ((0, 2), (0, 2))), ("beyond", BB, "rings", ((2, 0),)), ("beyond", BB, "Rings", ((0, 2),)),
            ("beyond", BB, ("rings",), ((0, 2),)), ("beyond", BB, ["rings"], ((0, 2),)), ("beyond", ("n",), None, ()),
            ("fails", BB, 0, 2), ("beyond", BB, None, None), ("beyond", BB, None, []),
        ) + STRANGE:
            self.same(is_cover_paper(TWICE, "walk", TWICE, "acyclic", value), False)
        # The condition must stand between both readings, of which the first one is the wider one.
        for reading in READINGS:
            for by in READINGS:
                if is_let(ONE, reading, by):
                    wanted = by == "acyclic" and reading != "acyclic"
                    self.same(is_cover_paper(TWICE, reading, TWICE, by, right), wanted)

    def test_cuts_that_are_not_apart_and_double_edges(self):
        loops, some = Question.read(ONE, "a a a a"), Question.read(ONE, "a a a a|b")
        word = ("n",) + ("a", "n") * 4
        for cuts, wanted in ((((0, 1),), True), (((0, 1), (2, 3)), True), (((0, 1), (1, 2)), False),
                             (((2, 3), (0, 1)), False), (((0, 2), (1, 3)), False)):
            self.same(is_cover_paper(loops, "trail", some, "simple", ("beyond", word, "nodes", cuts)), wanted)
        for cuts, wanted in ((((0, 2),), True), (((0, 1),), False), (((0, 1), (2, 3)), False)):
            self.same(is_cover_paper(loops, "walk", some, "simple", ("beyond", word, "edges", cuts)), wanted)
        self.same(len(cut_words(ONE, word, "edges")), 3)

    def test_tables(self):
        other = Question.read(ONE, ":n|b b")
        told = cover_paper(TWICE, "simple", other, "acyclic")
        self.same(told, ("within", ((0, 0), (1, 1), (2, 2))))
        table = told[1]
        near = [table[:at] + table[at + 1:] for at in range(3)]
        near += [table[::-1], list(table), table + ((2, 2),), ((0, 0), (1, True), (2, 2)), table + ((3, 0),), (), None,
                 ((0, 0), (1, 1), [2, 2])]
        for value in near:
            self.same(is_cover_paper(TWICE, "simple", other, "acyclic", ("within", value)), False)
        for value in (("within",), ("within", table, ()), ["within", table], ("word", table), ("Within", table),
                      ("word", BB), ("beyond", table)):
            self.same(is_cover_paper(TWICE, "simple", other, "acyclic", value), False)
        # A further pair is let where it is closed, too.
        self.same(is_cover_paper(TWICE, "simple", other, "acyclic", ("within", table + ((2, 0),))), False)
        more = ((0, 0), (1, 1), (1, 2), (2, 2))
        self.same(is_cover_paper(TWICE, "simple", other, "acyclic", ("within", more)), False)
        more = ((0, 0), (1, 0), (1, 1), (2, 1), (2, 2))
        self.same(is_cover_paper(TWICE, "simple", other, "acyclic", ("within", more)), False)
        whole = Question.read(ONE, "b*")
        self.same(is_cover_paper(TWICE, "simple", whole, "acyclic", ("within", ((0, 0), (1, 0), (2, 0)))), True)
        # The table is one of the wider question, not of the question itself.
        one, wide = around(23), Question.read(ONE, "(a|b)*")
        self.same([len(one), len(wider(one, ("rings",)))], [23, 24])
        for reading, by, right in (("simple", "acyclic", 24), ("simple", "simple", 23), ("acyclic", "simple", 23)):
            for many in (23, 24):
                value = ("within", tuple((at, 0) for at in range(many)))
                self.same(is_cover_paper(one, reading, wide, by, value), many == right)

    def test_a_wider_question_of_more_than_24_states(self):
        one, every = around(24), Question.read(ONE, "b*")
        self.refused(TooMany, is_covered, one, "simple", every, "acyclic", kept=24)
        self.refused(TooMany, cover_paper, one, "simple", every, "acyclic", kept=24)
        self.refused(TooMany, is_covered, one, "simple", one, "acyclic", kept=24)
        # Also where some word, cut or as it is, shows that it is not covered: a paper is judged, but none is returned.
        self.refused(TooMany, cover_paper, one, "simple", one, "acyclic", kept=24)
        right = ("beyond", ("n",) + ("b", "n") * 25, "rings", ((0, 25),))
        self.same(is_cover_paper(one, "simple", one, "acyclic", right), True)
        self.refused(TooMany, is_covered, one, "simple", FAR, "acyclic", kept=24)
        self.refused(TooMany, cover_paper, one, "simple", FAR, "acyclic", kept=24)
        self.same(is_cover_paper(one, "simple", FAR, "acyclic", ("beyond", ("n", "b", "n"), None, ())), True)
        for table in ((), tuple((at, 0) for at in range(24)), tuple((at, 0) for at in range(25))):
            self.same(is_cover_paper(one, "simple", every, "acyclic", ("within", table)), False)
        # By one reading the question itself is compared, which has 24 states.
        self.same([is_covered(one, "simple", every, "simple"), is_covered(one, "acyclic", every, "walk")], [True, True])

    def test_too_many_states_by_each_condition(self):
        # What cuts leave of one long word: to tell it apart takes more states than the word itself has.
        letters = "aababbbaabbabaaabbabbab"
        word = ("n",) + tuple(part for letter in letters for part in (letter, "n"))
        one = Question.of_words(BARE, (word,))
        self.same(len(one), 24)
        for reading in READINGS:
            for by in READINGS:
                conditions = asked_conditions(reading, by)
                for other in (one, Question.of_words(BARE, ()), Question.read(BARE, "(a|b)*")):
                    if conditions in ((), ("rings",)):
                        self.same(is_covered(one, reading, other, by), word in other and not (conditions and other == one))
                        self.same(cover_paper(one, reading, other, by)[0] == "within", is_covered(one, reading, other, by))
                    else:
                        self.refused(TooMany, wider, one, conditions, kept=24)
                        self.refused(TooMany, is_covered, one, reading, other, by, kept=24)
                        self.refused(TooMany, cover_paper, one, reading, other, by, kept=24)
                        self.same(is_cover_paper(one, reading, other, by, ("beyond", word, None, ())), word not in other)

    def test_too_many_states_of_some_words(self):
        chooser = random.Random(99)
        counted = {24: 0, "within": 0, "beyond": 0}
        for schema in ALL:
            every, none = Question.of_machine(schema, whole_machine(schema)), Question.of_words(schema, ())
            for _ in range(30):
                one = Question.of_words(schema, (some_word(schema, chooser, chooser.randrange(14, 24)),))
                other = chooser.choice([one, every, none, every - Question.of_words(schema, words_of(schema, 1))])
                for reading, by in (("simple", "acyclic"), ("trail", "simple"), ("walk", "acyclic"), ("walk", "walk")):
                    told = attempt(cover_paper, one, reading, other, by)
                    counted[told if told == 24 else told[0]] += 1
                    self.same(told == 24, attempt(wider, one, asked_conditions(reading, by)) == 24)
                    self.same(attempt(is_covered, one, reading, other, by), told if told == 24 else told[0] == "within")
        self.assertTrue(all(many > 50 for many in counted.values()), counted)

    def test_values_of_all_sorts(self):
        for value in STRANGE + ((), 7, "within", ONE, FAR, BB, ("within",), ("beyond",)):
            for told in (value, (value,), ("within", value), ("within", (value,)), (value, ()), ("beyond", value, None, ()),
                         ("beyond", BB, value, ((0, 2),)), ("beyond", BB, "rings", value), (value, BB, "rings", ((0, 2),)),
                         ("beyond", BB, "rings", (value,)), (value, value), (value,) * 4):
                self.same(is_cover_paper(TWICE, "walk", TWICE, "acyclic", told), False)


class Wrong(Case):

    def test_first_wrong_argument_decides(self):
        question, reading = (InvalidQuestion, NO_QUESTIONS), (UnknownName, NO_READINGS)
        wrong = (question, reading, question, reading)
        for call in (is_covered, cover_paper):
            self.first_wrong_decides(call, (TWICE, "walk", FAR, "simple"), wrong)
        self.first_wrong_decides(is_cover_paper, (TWICE, "walk", FAR, "simple", 7), wrong)

    def test_other_schemas(self):
        for call in (is_covered, cover_paper, lambda *told: is_cover_paper(*told, 7)):
            self.refused(InvalidOperation, call, TWICE, "walk", FRIENDS, "simple")
            self.refused(InvalidOperation, call, TWICE, "walk", TWICE.over(BARE), "simple")
            self.refused(UnknownName, call, TWICE, "walk", FRIENDS, "Simple", kept="Simple")

    def test_walk_by_trail_where_a_label_can_loop(self):
        for call in (is_covered, cover_paper, lambda *told: is_cover_paper(*told, 7)):
            self.refused(InvalidOperation, call, TWICE, "walk", TWICE, "trail")
            self.refused(InvalidOperation, call, FRIENDS, "walk", FRIENDS, "trail")
            call(TWICE, "trail", TWICE, "walk")
            call(TWICE, "walk", TWICE, "simple")
        bare = Question.read(BARE, "a b a")
        self.same(is_covered(bare, "walk", bare, "trail"), False)
        self.same(is_covered(bare, "walk", Question.read(BARE, "a b a|a"), "trail"), True)
        told = ("beyond", ("n", "a", "n", "b", "n", "a", "n"), "edges", ((0, 2),))
        self.same(cover_paper(bare, "walk", bare, "trail"), told)
        self.same(is_cover_paper(bare, "walk", bare, "trail", told), True)
