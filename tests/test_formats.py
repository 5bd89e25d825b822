"""Texts of schemas, graphs, questions and values, there and back, and lines that are wrong."""
import random

from tests.helpers import (
    FAR, FRIENDS, FULL, JUST, MIXED, NO_GRAPHS, NO_QUESTIONS, NO_SCHEMAS, ONE, ROADS, STRANGE, TWICE, Case, nested,
    some_graph,
)
from tests.reckoning import some_expressions, some_machine
from whichwalks.ask.questions import Question
from whichwalks.base.schemas import Schema
from whichwalks.cut.conditions import paper
from whichwalks.cut.cuts import CONDITIONS
from whichwalks.errors import InvalidGraph, InvalidOperation, InvalidQuestion, InvalidSchema, ParseError
from whichwalks.graph.graphs import Graph
from whichwalks.text.formats import (
    read_graph, read_question, read_schema, read_value, write_graph, write_question, write_schema, write_value,
)

NO_TEXTS = tuple(value for value in STRANGE if not isinstance(value, str)) + (7, (), ("kinds n",), ["kinds n"], ONE, b"0")
ROADS_TEXT = (
    "kinds city person\nlabel knows person -> person apart\nlabel lives person -> city apart\n"
    "label road city -> city loops"
)
TWICE_TEXT = "state n first\nstep b 1\nstate n\nstep b 2\nstate n last"
TOWN = Graph(ROADS, ("person", "city", "person"), ((0, "knows", 2), (0, "lives", 1), (1, "road", 1), (2, "knows", 0)))
TOWN_TEXT = "node person\nnode city\nnode person\nedge 0 knows 2\nedge 0 lives 1\nedge 1 road 1\nedge 2 knows 0"
# Names that are words of the texts, too.
NAMES = Schema(("apart", "first", "kinds", "label", "last", "loops"), {
    "edge": (("apart", "loops"), ("apart", "kinds"), True), "node": (("loops",), ("label",), False),
    "state": (("first", "last"), ("first", "last"), True), "step": (("kinds",), ("first",), False),
})


def some_schema(chooser):
    names = ["".join(chooser.choice("abxyz") for _ in range(chooser.randrange(1, 9))) for _ in range(20)]
    names = sorted(set(names))
    chooser.shuffle(names)
    kinds = tuple(sorted(names[:chooser.randrange(1, 5)]))
    labels = {}
    for label in [name for name in names if name not in kinds][:chooser.randrange(1, 9)]:
        sources, targets = [tuple(sorted(chooser.sample(kinds, chooser.randrange(1, len(kinds) + 1)))) for _ in range(2)]
        labels[label] = (sources, targets, bool(set(sources) & set(targets)) and chooser.random() < 0.5)
    return Schema(kinds, labels)


def some_value(chooser, depth):
    if depth == 0 or chooser.random() < 0.4:
        return chooser.choice((None, 0, 1, 7, 10, 120, 10 ** 60 - 1, "n", "holds", "fails", "abcdefgh"))
    return tuple(some_value(chooser, depth - 1) for _ in range(chooser.randrange(4)))


def deep(levels, value="n"):
    for _ in range(levels):
        value = (value,)
    return value


def broken(text):
    """Texts near a text: a line left out, twice, exchanged with the next one, spoilt, with a blank more, empty."""
    lines = text.split("\n")
    for at, line in enumerate(lines):
        yield lines[:at] + lines[at + 1:]
        yield lines[:at] + [line, line] + lines[at + 1:]
        yield lines[:at] + lines[at + 1:at + 2] + [line] + lines[at + 2:]
        for other in (line + " ", " " + line, line.replace(" ", "  ", 1), "", line + " n", line.rpartition(" ")[0],
                      line.upper(), line[1:], line + " 0", line.partition(" ")[2], line + "\t", line + "\r"):
            yield lines[:at] + [other] + lines[at + 1:]
        yield lines[:at] + [""] + lines[at:]
    yield lines + [""]


def schema_index(lines):
    """The index of the first line of a text of a schema that is wrong, or the number of lines, by [18.1] word for word."""
    last = ""
    for at, line in enumerate(lines):
        words = line.split(" ")
        if (words[0] == "kinds") != (at == 0):
            return at
        if at == 0:
            is_right = all(is_plain_name(word) for word in words[1:])
        else:
            is_right = words[0] == "label" and words.count("->") == 1 and words[-1] in ("loops", "apart")
            is_right = is_right and words.index("->") > 1 and len(words) > words.index("->") + 1
            is_right = is_right and all(is_plain_name(word) for word in words[1:-1] if word != "->")
            if is_right and words[1] <= last:
                return at
            last = words[1] if is_right else last
        if not is_right:
            return at
    return len(lines)


def graph_index(lines):
    """The same of a text of a graph, by [18.2]."""
    edges = []
    for at, line in enumerate(lines):
        words = line.split(" ")
        if words[0] == "node" and len(words) == 2 and is_plain_name(words[1]) and not edges:
            continue
        if words[0] != "edge" or len(words) != 4 or not is_plain_name(words[2]):
            return at
        if not is_plain_number(words[1]) or not is_plain_number(words[3]):
            return at
        edges.append((int(words[1]), words[2], int(words[3])))
        if edges != sorted(set(edges)):
            return at
    return len(lines)


def question_index(lines):
    """The same of a text of a question, by [18.3]."""
    steps = None
    for at, line in enumerate(lines):
        words = line.split(" ")
        if words[0] == "state" and len(words) > 1 and is_plain_name(words[1]):
            if words[2:] not in ([], ["first"], ["last"], ["first", "last"]):
                return at
            steps = []
        elif words[0] == "step" and len(words) == 3 and is_plain_name(words[1]) and is_plain_number(words[2]):
            if steps is None or (steps and steps[-1] >= (words[1], int(words[2]))):
                return at
            steps.append((words[1], int(words[2])))
        else:
            return at
    return len(lines)


def is_plain_name(word):
    return 1 <= len(word) <= 8 and all(sign in "abcdefghijklmnopqrstuvwxyz" for sign in word)


def is_plain_number(word):
    return word != "" and all(sign in "0123456789" for sign in word) and str(int(word)) == word


class There(Case):

    def test_schemas(self):
        chooser = random.Random(131)
        self.same(write_schema(ROADS), ROADS_TEXT)
        self.same(write_schema(ROADS.with_loops(())).split("\n")[3], "label road city -> city apart")
        self.same(write_schema(MIXED).split("\n")[1], "label go k m -> m s loops")
        for schema in [ONE, ROADS, MIXED, JUST, FULL, NAMES] + [some_schema(chooser) for _ in range(60)]:
            text = write_schema(schema)
            self.same([read_schema(text) == schema, len(text.split("\n"))], [True, len(schema) + 1])
            self.same(write_schema(read_schema(text)), text)

    def test_graphs(self):
        chooser = random.Random(132)
        self.same([write_graph(TOWN), read_graph(ROADS, TOWN_TEXT) == TOWN], [TOWN_TEXT, True])
        self.same([write_graph(Graph(ONE, (), ())), read_graph(ONE, "") == Graph(ONE, (), ())], ["", True])
        self.same([write_graph(Graph(ONE, ("n",), ())), read_graph(ONE, "node n").kinds], ["node n", ("n",)])
        for schema in (ONE, ROADS, MIXED, NAMES):
            for many in (1, 2, 5, 12):
                graph = some_graph(schema, chooser, many, 2 * many)
                text = write_graph(graph)
                self.same([read_graph(schema, text) == graph, write_graph(read_graph(schema, text)) == text], [True] * 2)
        many = Graph(ONE, ("n",) * 2000, tuple((at, "a", at) for at in range(2000)))
        self.same([read_graph(ONE, write_graph(many)) == many, write_graph(many).split("\n")[2010]], [True, "edge 10 a 10"])

    def test_questions(self):
        chooser = random.Random(133)
        self.same([write_question(TWICE), read_question(ONE, TWICE_TEXT) == TWICE], [TWICE_TEXT, True])
        self.same(write_question(FAR), "state n first last\nstep a 0")
        self.same(write_question(FRIENDS), "state person first\nstep knows 0\nstep lives 1\nstate city last")
        none = Question.of_words(ONE, ())
        self.same([write_question(none), read_question(ONE, "") == none], ["", True])
        for schema in (ONE, ROADS, MIXED, NAMES):
            told = [Question(schema, one) for one in some_expressions(schema, chooser, 30)]
            told += [Question.of_machine(schema, some_machine(schema, chooser, 6)) for _ in range(20)]
            for question in told:
                text = write_question(question)
                self.same([read_question(schema, text) == question, read_question(schema, text).machine], [
                    True, question.machine])
                self.same(write_question(read_question(schema, text)), text)
        whole = Question.of_machine(ONE, (("n",) * 24, (0,), tuple((at, "b", (at + 1) % 24) for at in range(24)), (1,)))
        self.same([len(whole), read_question(ONE, write_question(whole)) == whole], [24, True])

    def test_values(self):
        chooser = random.Random(134)
        for value, text in (
            ((), "( )"), (None, "-"), (0, "0"), (10 ** 60 - 1, "9" * 60), ("n", "=n"), (("n",), "( =n )"),
            ((("n", "a", "n"), None, ()), "( ( =n =a =n ) - ( ) )"), (("fails", ("n",), 0, 1), "( =fails ( =n ) 0 1 )"),
            (("holds", ((2, (0, 1)),)), "( =holds ( ( 2 ( 0 1 ) ) ) )"), (((),), "( ( ) )"),
            (deep(8), "( " * 8 + "=n" + " )" * 8), (deep(7, ()), "( " * 8 + ")" + " )" * 7), (deep(8, None), deep_text("-")),
        ):
            self.same([write_value(value), read_value(text)], [text, value])
        for _ in range(400):
            value = some_value(chooser, chooser.randrange(9))
            self.same(read_value(write_value(value)), value)
            self.assertNotIn("\n", write_value(value))
        for question in (FAR, TWICE, FRIENDS, Question.read(ONE, "a a?")):
            for condition in CONDITIONS:
                told = paper(question, condition)
                self.same(read_value(write_value(told)), told)


def deep_text(word):
    return "( " * 8 + word + " )" * 8


class Back(Case):

    def test_broken_schemas(self):
        for schema in (ROADS, ONE, MIXED, NAMES):
            text = write_schema(schema)
            for lines in broken(text):
                self.wrong_schema("\n".join(lines))

    def wrong_schema(self, text):
        """A text of a schema, or one that is none: the right index, whatever else stands there."""
        lines = text.split("\n") if text else []
        index = schema_index(lines)
        try:
            schema = read_schema(text)
        except ParseError as error:
            self.same([text, error.index], [text, index])
            return
        self.same([write_schema(schema), index], [text, len(lines)])

    def test_schemas_by_hand(self):
        for lines, index in (
            ((), 0), (("",), 0), (("", ""), 0), (("kinds",), 1), (("kinds n",), 1), (("kinds n", ""), 1), (("label a n -> n apart",), 0),
            (("label a n -> n apart", "kinds n"), 0), (("kinds n", "kinds n"), 1), (("kinds n", "label a n -> n apart"), None),
            (("kinds n", "label a n -> n"), 1), (("kinds n", "label a n n apart"), 1), (("kinds n", "label a -> apart"), 2),
            (("kinds n", "label a n -> apart"), 2), (("kinds n", "label a -> n apart"), 2), (("kinds n", "label -> n apart"), 1),
            (("kinds n", "label a n -> -> n apart"), 1), (("kinds n", "label a n -> n loop"), 1), (("kinds n", "label"), 1), (("kinds n", "label a apart"), 1), (("kinds n", "label loops"), 1),
            (("kinds n", "label apart"), 1),
            (("kinds n", "label a n -> m apart"), 2), (("kinds n", "label n n -> n apart"), 2), (("kinds n m",), 1),
            (("kinds m n", "label b n -> n apart", "label a n -> n apart"), 2), (("kinds a b c d e f g", "label x a -> a apart"), 2),
            (("kinds m n", "label a n -> n apart", "label a n -> n apart"), 2), (("kinds m n", "label a n m -> n apart"), 2),
            (("kinds m n", "label a m -> n loops"), 2), (("kinds n n", "label a n -> n apart"), 2), (("Kinds n",), 0),
            (("kinds N", "label a n -> n apart"), 0), (("kinds n", "label a n -> n loops ",), 1), (("kinds  n",), 0),
            (("kinds n", "label abcdefghi n -> n apart"), 1), (("kinds n", "label a1 n -> n apart"), 1), (("kinds n ",), 0),
            (("kinds n", "label a n-> n apart"), 1), (("kinds n", "label a n -> n apart loops"), None),
        ):
            text = "\n".join(lines)
            with self.subTest(text=text):
                if index is None:
                    # Of the last one the whole is wrong: loops is no kind.
                    if lines[1].endswith("loops"):
                        self.refused(ParseError, read_schema, text, kept=2)
                    else:
                        self.same(write_schema(read_schema(text)), text)
                else:
                    self.refused(ParseError, read_schema, text, kept=index)
        eight = [f"label {name} n -> n apart" for name in "abcdefgh"]
        self.same(len(read_schema("\n".join(["kinds n"] + eight))), 8)
        self.refused(ParseError, read_schema, "\n".join(["kinds n"] + eight + ["label i n -> n apart"]), kept=10)

    def test_broken_graphs(self):
        for schema, text in ((ROADS, TOWN_TEXT), (ONE, "node n\nnode n\nedge 0 a 0\nedge 0 b 1\nedge 1 b 0")):
            for lines in broken(text):
                lines = lines if lines != [""] else []
                self.wrong_graph(schema, "\n".join(lines))

    def wrong_graph(self, schema, text):
        lines = text.split("\n") if text else []
        index = graph_index(lines)
        try:
            graph = read_graph(schema, text)
        except ParseError as error:
            self.same([text, error.index], [text, index])
            return
        self.same([write_graph(graph), index], [text, len(lines)])

    def test_graphs_by_hand(self):
        for lines, index in (
            (("node m",), 1), (("node n", "node x"), 2), (("node",), 0), (("node n n",), 0), (("edge 0 a 0",), 1), (("\n",), 0),
            (("node n", "edge 0 a 0", "node n"), 2), (("node n", "edge 0 a 0", "edge 0 a 0"), 2), (("node n", "edge 0 b 0"), 2),
            (("node n", "node n", "edge 1 a 0", "edge 0 a 1"), 3), (("node n", "edge 00 a 0"), 1), (("node n", "edge 0 a 01"), 1),
            (("node n", "edge 0 a 1"), 2), (("node n", "edge 0 c 0"), 2), (("node n", "edge 0 a -1"), 1), (("node n", "edge a 0"), 1),
            (("node n", "edge 0 a +0"), 1), (("node n", "edge 0 a 0 "), 1), (("node n", "edge 0 A 0"), 1), (("node n", "edge 0  0"), 1),
            (("node n", "edge 0 a " + "9" * 60), 2), (("node n", ""), 1), (("", "node n"), 0), (("node n", "edge 0 a 0_1"), 1),
            (("node n", "Edge 0 a 0"), 1), (("node n", "edge 0 a 0", ""), 2), (("node n",) * 2001, 2001),
            (("node n", "node n", "edge 0 b 1", "edge 0 a 1"), 3), (("node n", "edge 0 a \u0661"), 1), (("node n", "edge \xb2 a 0"), 1),
        ):
            self.refused(ParseError, read_graph, ONE, "\n".join(lines), kept=index)

    def test_broken_questions(self):
        for schema, text in ((ONE, TWICE_TEXT), (ROADS, write_question(FRIENDS)), (MIXED, write_question(
                Question.read(MIXED, "(go|up)* in")))):
            for lines in broken(text):
                lines = lines if lines != [""] else []
                self.wrong_question(schema, "\n".join(lines))

    def wrong_question(self, schema, text):
        lines = text.split("\n") if text else []
        index = question_index(lines)
        try:
            question = read_question(schema, text)
        except ParseError as error:
            self.same([text, error.index], [text, index])
            return
        self.same([write_question(question), index], [text, len(lines)])

    def test_questions_by_hand(self):
        for text, index in (
            # No state, a mark twice or out of order, a step ahead of each state, steps that do not ascend.
            ("state", 0), ("state n first first", 0), ("state n last first", 0), ("state n firsts", 0), ("step a 0", 0),
            ("state n first last\nstep a 0\nstep a 0", 2), ("state n first last\nstep b 0\nstep a 0", 2), ("state N", 0),
            ("state n first last\nstep a 00", 1), ("state n first last\nstep a", 1), ("state n first last\nstep 0 a", 1), ("state n first last\nstep A 0", 1),
            ("state n first last\nstep 0 0", 1), ("state n first last\nstep  0", 1),
            # Right lines of no machine: another kind, a target that is none, a step that does not fit, no word.
            ("state m first last", 1), ("state n first last\nstep a 1", 2), ("state n first last\nstep c 0", 2),
            ("state first first last", 1), ("state n", 1), ("state n first", 1), ("state n last", 1),
            # Right machines, but not least: a state twice, a state that no word has; or numbered otherwise.
            ("state n first last\nstep a 1\nstate n last\nstep a 1", 4), ("state n first last\nstate n last", 2),
            ("state n first last\nstep a 1\nstate n", 3), ("state n last\nstep b 0\nstate n first\nstep a 0", 4),
            ("state n first\nstep a 2\nstep b 1\nstate n\nstep b 2\nstate n last", 6),
            ("state n first last\nstate n first last", 2), ("state n first\nstep b 0\nstep b 1\nstate n last", 4),
            ("state n first last\n", 1), ("\nstate n first last", 0), ("\n", 0), ("state n first last\nstep a " + "9" * 60, 2),
        ):
            with self.subTest(text=text):
                self.refused(ParseError, read_question, ONE, text, kept=index)
        for many in (25, 100, 101, 200):
            lines = ["state n first"] + ["step b 1\nstate n"] * (many - 2) + ["step b 1\nstate n last"]
            steps = "\n".join(lines).split("\n")
            for at in range(1, len(steps), 2):
                steps[at] = f"step b {at // 2 + 1}"
            self.refused(ParseError, read_question, ONE, "\n".join(steps), kept=2 * many - 1)
        two = "state n first\nstep a 1\nstep b 2\nstate n\nstep b 2\nstate n last"
        self.same(write_question(read_question(ONE, two)), two)
        self.refused(ParseError, read_question, ROADS, TWICE_TEXT, kept=5)

    def test_other_schemas(self):
        # The lines are right, whatever names there are; the whole is not.
        self.refused(ParseError, read_graph, ONE, TOWN_TEXT, kept=7)
        self.refused(ParseError, read_question, ONE, write_question(FRIENDS), kept=4)
        self.same(read_question(ONE.with_loops(()), TWICE_TEXT).schema == ONE.with_loops(()), True)
        loop = "node city\nedge 0 road 0"
        self.refused(ParseError, read_graph, ROADS.with_loops(()), loop, kept=2)

    def test_values_by_hand(self):
        for text, index in (
            ("", 0), (" ", 0), ("\n", 0), ("n", 0), ("=", 0), ("=N", 0), ("= n", 0), ("=abcdefghi", 0), ("-1", 0), ("01", 0),
            ("00", 0), ("(", 0), (")", 0), ("()", 0), ("(  )", 0), ("( ", 0), ("( ) ", 0), (" ( )", 0), ("( =n", 0), ("=n )", 0),
            ("( =n ) )", 0), ("( ( =n )", 0), ("0 1", 0), ("( ) ( )", 0), ("=n (", 0), ("0 ( =n", 0), ("- -", 0), ("--", 0), ("None", 0), ("True", 0), ("1.0", 0),
            ("( =n )\n", 1), ("( =n )\n( =n )", 1), ("0\n0", 1), ("(\n)", 0), ("0\n\n", 1), ("+1", 0), ("1_0", 0), ("=n=n", 0),
            ("( =n, )", 0), ("'n'", 0), ("\t0", 0), ("0\r", 0), ("\u0661", 0), ("\xb2", 0), ("==n", 0), ("( =n -)", 0), ("x\n\n", 0),
        ):
            with self.subTest(text=text):
                self.refused(ParseError, read_value, text, kept=index)


class Wrong(Case):

    def test_values_without_a_text(self):
        one = Question.read(ONE, "a")
        for value in (True, False, -1, -(10 ** 59), 10 ** 60, "", "Road", "a b", "abcdefghi", "n\n", [], ["n"], {}, {"n": 1},
                      ONE, one, Graph(ONE, (), ()), b"n", "->", "=n", "-", "(", deep(9), deep(8, ()), nested(10), 1.5,
                      {1, 2}, InvalidGraph("n")):
            with self.subTest(value=value):
                self.refused(InvalidOperation, write_value, value)
                self.refused(InvalidOperation, write_value, ("n", value))
                self.refused(InvalidOperation, write_value, deep(5, (0, value)))
        for value in STRANGE:
            if value is not None and value not in ((1, 2), ((),), (None,)):
                self.refused(InvalidOperation, write_value, value)

    def test_first_wrong_argument_decides(self):
        self.first_wrong_decides(write_schema, (ONE,), ((InvalidSchema, NO_SCHEMAS),))
        self.first_wrong_decides(write_graph, (TOWN,), ((InvalidGraph, NO_GRAPHS),))
        self.first_wrong_decides(write_question, (TWICE,), ((InvalidQuestion, NO_QUESTIONS),))
        texts = (InvalidOperation, NO_TEXTS)
        self.first_wrong_decides(read_schema, (ROADS_TEXT,), (texts,))
        self.first_wrong_decides(read_value, ("0",), (texts,))
        for call, text in ((read_graph, "node n"), (read_question, TWICE_TEXT)):
            self.first_wrong_decides(call, (ONE, text), ((InvalidSchema, NO_SCHEMAS), texts))
            self.refused(InvalidSchema, call, None, "x")

    def test_texts_of_all_sorts(self):
        for text in [value for value in STRANGE if isinstance(value, str) and value] + ["nan", "0 0", "x" * 4000, " " * 4000]:
            self.refused(ParseError, read_schema, text, kept=0)
            self.refused(ParseError, read_graph, ONE, text, kept=0)
            self.refused(ParseError, read_question, ONE, text, kept=0)
            self.refused(ParseError, read_value, text, kept=0)
        for many in (1, 3, 3999):
            self.refused(ParseError, read_graph, ONE, "\n" * many, kept=0)
