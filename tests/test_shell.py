"""The shell: each command, each word for an error, and lines that are none; against stores with the same calls."""
import random

from tests.helpers import FRIENDS, MIXED, ONE, ROADS, STRANGE, Case
from tests.test_formats import NO_TEXTS
from whichwalks.ask.questions import Question
from whichwalks.base.schemas import Schema
from whichwalks.cut.conditions import paper
from whichwalks.cut.cuts import CONDITIONS
from whichwalks.cut.readings import do_agree, profile
from whichwalks.desk.store import Store
from whichwalks.errors import (
    InvalidGraph, InvalidNumber, InvalidOperation, Missing, NothingToUndo, ParseError, TooMany, UnknownName,
)
from whichwalks.graph.ways import READINGS
from whichwalks.text.formats import write_graph, write_schema
from whichwalks.text.shell import Shell

ROADS_TEXT = write_schema(ROADS)


def town():
    """A shell with a small town; seven calls were made."""
    shell = Shell(ROADS_TEXT)
    for line in ("add person", "add person", "add city", "put 0 knows 1", "put 1 lives 2", "keep far acyclic knows* lives",
                 "keep back simple knows knows"):
        shell(line)
    return shell


def word_for(call):
    """What the shell is to answer if the call answers this or raises that."""
    try:
        told = call()
    except UnknownName as error:
        return f"unknown {error.name}"
    except InvalidNumber as error:
        return f"number {error.value}"
    except InvalidGraph:
        return "graph"
    except Missing as error:
        return "missing {} {} {}".format(*error.edge)
    except NothingToUndo as error:
        return f"undo {error.many}"
    except TooMany as error:
        return f"many {error.limit}"
    return "done" if told is None else told


def parts(told):
    return " ".join(str(part) for part in told) or "none"


def wanted(store, line):
    """The answer to a line that is a command, from a store to which the call of the line is made."""
    command, *rest = line.split(" ")
    given = [int(word) if word.isdigit() else word for word in rest]
    if command in ("put", "drop", "forget"):
        return word_for(lambda: getattr(store, command)(*given))
    if command in ("undo", "redo"):
        many = given[0] if given else 1
        return word_for(lambda: (getattr(store, command)(many=many), None)[1])
    if command == "add":
        return word_for(lambda: str(store.add(*given)))
    if command == "keep":
        text = line.split(" ", 3)[3]
        return word_for(lambda: store.keep(given[0], Question.read(store.schema, text), given[1]))
    if command == "plan":
        return word_for(lambda: store.plan(*given))
    if command == "pairs":
        return word_for(lambda: "\n".join(parts(pair) for pair in store.pairs(*given)) or "none")
    if command == "way":
        return word_for(lambda: parts(store.way(*given) or ()))
    if command == "graph":
        return write_graph(store.graph) or "none"
    if command == "names":
        return "\n".join(f"{name} {store[name][1]}" for name in store) or "none"
    if command == "agree":
        return word_for(lambda: ("no", "yes")[do_agree(store[given[0]][0], store[given[0]][1], given[1])])
    if command == "profile":
        return word_for(lambda: parts(profile(store[given[0]][0])))
    return word_for(lambda: shown(paper(store[given[0]][0], given[1])))


def shown(told):
    return "holds" if told[0] == "holds" else parts(("fails",) + told[1] + told[2:])


def some_line(schema, chooser, texts):
    command = chooser.choice(("add put put put put drop keep keep keep forget undo redo plan pairs way graph names agree"
                              " profile show").split())
    name = chooser.choice(("far", "near", "x"))
    number = str(chooser.choice((0, 0, 1, 1, 2, 3, 7)))
    if command == "add":
        return f"add {chooser.choice(schema.kinds + ('x',))}"
    if command in ("put", "drop"):
        return f"{command} {number} {chooser.choice(schema.labels + ('x',))} {chooser.choice('012')}"
    if command == "keep":
        return f"keep {name} {chooser.choice(READINGS + ('fast',))} {chooser.choice(texts)}"
    if command in ("undo", "redo"):
        return command + chooser.choice(("", " 0", " 1", " 2", " 5"))
    if command in ("graph", "names"):
        return command
    if command == "way":
        return f"way {name} {number} {chooser.choice('0123')}"
    if command == "agree":
        return f"agree {name} {chooser.choice(READINGS + ('fast',))}"
    if command == "show":
        return f"show {name} {chooser.choice(CONDITIONS + ('fast',))}"
    return f"{command} {name}"


class Commands(Case):

    def test_by_hand(self):
        shell = Shell(ROADS_TEXT)
        for line, answer in (
            ("graph", "none"), ("names", "none"), ("undo", "undo 1"), ("redo", "undo 1"), ("add person", "0"), ("add city", "1"),
            ("add person", "2"), ("put 0 lives 1", "done"), ("put 2 knows 0", "done"), ("graph", (
                "node person\nnode city\nnode person\nedge 0 lives 1\nedge 2 knows 0")),
            ("keep far acyclic knows* lives", "done"), ("keep back walk  ( knows )knows ", "done"), ("names", "back walk\nfar acyclic"),
            ("plan far", "walk"), ("pairs far", "0 1\n2 1"), ("pairs back", "none"), ("way far 2 1", "2 knows 0 lives 1"),
            ("way far 1 1", "none"), ("way back 0 0", "none"), ("agree far walk", "yes"), ("agree back acyclic", "no"),
            ("agree back simple", "yes"), ("profile far", "edges nodes rings"), ("profile back", "edges nodes"),
            ("show far nodes", "holds"), ("show back rings", "fails person knows person knows person 0 2"),
            ("drop 2 knows 0", "done"), ("pairs far", "0 1"), ("undo", "done"), ("pairs far", "0 1\n2 1"), ("redo 1", "done"),
            ("forget far", "done"), ("names", "back walk"), ("undo 4", "done"), ("names", "none"), ("redo 9", "undo 9"),
            ("redo 4", "done"), ("redo 0", "done"), ("undo 0", "done"), ("names", "back walk"),
        ):
            with self.subTest(line=line):
                self.same(shell(line), answer)

    def test_each_word_for_an_error(self):
        for line, answer in (
            ("add x", "unknown x"), ("add knows", "unknown knows"), ("put 0 knows 1", "graph"), ("put 9 knows 1", "graph"),
            ("put 0 road 1", "graph"), ("put 0 x 1", "graph"), ("put 2 lives 0", "graph"), ("drop 1 knows 0", "missing 1 knows 0"),
            ("drop 99 x 7", "missing 99 x 7"), ("keep far fast knows", "unknown fast"), ("keep far nodes knows", "unknown nodes"),
            ("forget near", "unknown near"), ("plan near", "unknown near"), ("pairs near", "unknown near"),
            ("way near 0 1", "unknown near"), ("way near 9 9", "unknown near"), ("way far 7 9", "number 7"), ("way far 0 9", "number 9"),
            ("agree near walk", "unknown near"), ("agree far fast", "unknown fast"), ("agree near fast", "unknown near"),
            ("profile near", "unknown near"), ("show near rings", "unknown near"), ("show far knots", "unknown knots"),
            ("show near knots", "unknown near"), ("show far walk", "unknown walk"), ("undo 8", "undo 8"), ("redo", "undo 1"),
            ("redo 3", "undo 3"), ("undo " + "9" * 60, "undo " + "9" * 60), ("way far " + "9" * 60 + " 0", "number " + "9" * 60),
            ("put " + "9" * 60 + " knows 0", "graph"), ("drop 0 knows " + "9" * 60, "missing 0 knows " + "9" * 60),
            # Of 21 labels, each joined to the next one, an expression has 41 parts.
            ("keep far walk " + "knows " * 21, "many 40"), ("keep far fast " + "knows " * 21, "unknown fast"),
        ):
            shell = town()
            with self.subTest(line=line):
                self.same(shell(line), answer)
                self.same([shell.store() == town().store(), shell.store().undo(many=0)], [True, 7])

    def test_too_many_states(self):
        shell = Shell(write_schema(Schema(("n",), {"a": (("n",), ("n",), True), "b": (("n",), ("n",), False)})))
        text = "(a|b)* a (a|b) (a|b) (a|b) (a|b)"
        self.same([shell("keep far walk " + text), shell("keep far fast " + text), shell("keep far walk " + text + " ("),
                   shell("names")], ["many 24", "unknown fast", "what", "none"])

    def test_limits(self):
        shell = Shell(write_schema(ONE))
        for at in range(2000):
            shell("add n")
        self.same([shell("add n"), shell("add m"), shell("undo"), shell("add n")], ["many 2000", "unknown m", "done", "1999"])

    def test_against_a_store(self):
        chooser = random.Random(141)
        for schema, texts in ((ROADS, ("knows* lives", "knows knows", " road+", "(road|lives)? ")),
                              (ONE, ("a*", "b b", "a a?", "b*|:n", "a b")), (MIXED, ("(go|up)*", "in up", "go go"))):
            for _ in range(12):
                shell, store = Shell(write_schema(schema)), Store(schema)
                for _ in range(60):
                    line = some_line(schema, chooser, texts)
                    answer = wanted(store, line)
                    with self.subTest(line=line):
                        self.same((shell, shell.answer)[chooser.randrange(2)](line), answer)
                        self.same(shell.store() == store, True)
                        self.same(shell.store().undo(many=0), store.undo(many=0))


class Lines(Case):

    def test_near_commands(self):
        shell = town()
        for line in (
            "", " ", "fly", "Add person", "add", "add ", "add  person", "add person ", " add person", "add person city", "add 7",
            "add Person", "add person\n", "\nadd person", "add\tperson", "add abcdefghi", "put", "put 0 knows", "put 0 knows 1 ",
            "put 0 knows 1 2", "put 0  knows 1", "put knows 0 1", "put -1 knows 0", "put 00 knows 1", "put 0 knows 01",
            "put 0 Knows 1", "put +0 knows 1", "put 0 knows one", "put 0 0 1", "put 0.0 knows 1", "put 0 knows \u0661", "put \xb2 knows 1",
            "drop", "drop 0 knows", "drop 0 knows 1 1", "drop zero knows 1", "keep", "keep far", "keep far walk", "keep far walk ",
            "keep far walk  ", "keep far Walk knows", "keep Far walk knows", "keep far walk knows (", "keep far walk walks",
            "keep far walk :road", "keep far walk knows||lives", "keep far walk *", "keep far walk knows\n", "keep  far walk knows",
            "keep far  walk knows", "keep far 0 knows", "keep 0 walk knows", "keep far fast (", "forget", "forget ", "forget far near",
            "forget 0", "undo ", "undo  2", "undo -1", "undo 01", "undo two", "undo 1 1", "undo 1 ", "redo ", "redo x", "redo 1.0",
            "plan", "plan far ", "plan far walk", "plan 0", "pairs", "pairs far far", "pairs Far", "way far", "way far 0", "way far 0 1 2",
            "way 0 far 1", "way far 0 x", "way far 0 -1", "graph ", "graph x", "graphs", "names ", "names far", "agree far", "agree far walk ",
            "agree far walk trail", "agree far Walk", "profile", "profile far nodes", "profile ", "show", "show far", "show far nodes ",
            "show far nodes rings", "show far 0", "store", "trial", "many", "what", "none", "text", "undo many", "name", "graph graph",
        ) + STRANGE + (7, (), ("graph",), ["graph"], ROADS, b"graph"):
            for call in (shell, shell.answer):
                with self.subTest(line=line):
                    self.same(call(line), "what")
        self.same([shell.store() == town().store(), shell.store().undo(many=0)], [True, 7])

    def test_texts_of_expressions(self):
        shell = town()
        for text in ("knows", " knows", "  knows  ", "(knows)", "((knows))lives", "knows*lives", ":person", "knows|lives|road", "road road"):
            self.same([shell("keep x walk " + text), shell.store()["x"][0] == Question.read(ROADS, text)], ["done", True])

    def test_names_that_are_words_of_the_shell(self):
        shell = Shell("kinds add graph\nlabel none add -> graph apart\nlabel undo graph -> graph loops")
        for line, answer in (
            ("add add", "0"), ("add graph", "1"), ("put 0 none 1", "done"), ("put 1 undo 1", "done"), ("keep keep walk none", "done"),
            ("way keep 0 1", "0 none 1"), ("names", "keep walk"), ("keep none walk :add", "done"), ("pairs none", "0 0"),
            ("graph", "node add\nnode graph\nedge 0 none 1\nedge 1 undo 1"), ("plan none", "walk"), ("profile none", "edges nodes rings"),
            ("keep what walk undo undo", "done"), ("profile what", "none"), ("show what edges", "fails graph undo graph undo graph 0 1"),
        ):
            self.same(shell(line), answer)


class Shells(Case):

    def test_twins(self):
        shell = town()
        store = shell.store()
        self.same([store.undo(many=7), shell("names"), shell.store().names], [0, "back simple\nfar acyclic", ("back", "far")])
        store.redo(many=7)
        store.add("city")
        self.same([len(store.graph), len(shell.store().graph), shell("undo 7"), shell("redo 7")], [4, 3, "done", "done"])
        self.same(shell.store() == shell.store(), True)
        self.assertEqual(shell.store()["far"], (FRIENDS, "acyclic"))

    def test_errors(self):
        self.first_wrong_decides(Shell, (ROADS_TEXT,), ((InvalidOperation, NO_TEXTS),))
        for text, index in (("", 0), ("kinds n", 1), ("kinds n\nlabel a n -> n", 1), ("graph", 0), (ROADS_TEXT + "\n", 4)):
            self.refused(ParseError, Shell, text, kept=index)

    def test_two_shells(self):
        one, other = Shell(ROADS_TEXT), Shell(ROADS_TEXT)
        one("add city")
        self.same([other("graph"), one("graph"), one.store() == other.store()], ["none", "node city", False])
