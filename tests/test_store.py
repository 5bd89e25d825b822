"""Stores, against a plain record of the calls, and their answers against plain search."""
import random

from tests.helpers import (
    FAR, FRIENDS, HOME, MIXED, NO_QUESTIONS, NO_SCHEMAS, ONE, ROADS, STRANGE, TWICE, Case, some_graph,
)
from tests.reckoning import some_expressions, some_machine
from tests.test_readings import pairs_by_search
from tests.test_ways import NO_READINGS, plain_word, plainly_counts
from whichwalks.ask.questions import Question
from whichwalks.cut.readings import widest
from whichwalks.desk.store import Store
from whichwalks.errors import (
    InvalidGraph, InvalidName, InvalidNumber, InvalidOperation, InvalidQuestion, InvalidSchema, Missing, NothingToUndo,
    TooMany, UnknownName,
)
from whichwalks.graph.graphs import Graph
from whichwalks.graph.ways import READINGS

NO_NAMES = STRANGE + ((), 7, "Far", "far ", "a1", "abcdefghi", ("far",), ["far"], ONE, FAR)
NO_NODES = STRANGE + ((), 7, -1, "0", (0,), [0], ONE, 3)
NO_COUNTS = STRANGE + ((), -1, "1", (1,), [1], ONE, -(10 ** 59))
WORDS = ("far", "near", "back", "x")


def town():
    """A store with two persons who know each other, a city, and two questions; seven calls."""
    store = Store(ROADS)
    for kind in ("person", "person", "city"):
        store.add(kind)
    store.put(0, "knows", 1)
    store.put(1, "lives", 2)
    store.keep("far", FRIENDS, "acyclic")
    store.keep("back", Question.read(ROADS, "knows knows"), "simple")
    return store


def told_of(store):
    """All that a store tells but what can be undone."""
    return store.graph, [(name, store[name]) for name in store]


class Record:
    """What was done to a store, call by call."""

    def __init__(self, schema):
        self.schema = schema
        self.contents, self.at = [((), frozenset(), {})], 0

    def now(self):
        return self.contents[self.at]

    def graph(self):
        kinds, edges, _ = self.now()
        return Graph(self.schema, kinds, tuple(sorted(edges)))

    def change(self, kinds, edges, questions):
        self.contents[self.at + 1:] = [(kinds, edges, questions)]
        self.at += 1

    def do(self, call, *told):
        """Do a call that is right."""
        kinds, edges, questions = self.now()
        if call == "add":
            self.change(kinds + told, edges, questions)
            return len(kinds)
        if call == "put":
            return self.change(kinds, edges | {told}, questions)
        if call == "drop":
            return self.change(kinds, edges - {told}, questions)
        if call == "keep":
            return self.change(kinds, edges, {**questions, told[0]: told[1:]})
        if call == "forget":
            return self.change(kinds, edges, {name: one for name, one in questions.items() if name != told[0]})
        self.at += told[0] if call == "redo" else -told[0]
        return self.at

    def wrong(self, call, *told):
        """The error of a call with right kinds of values, with what it keeps, or None."""
        kinds, edges, questions = self.now()
        if call == "add":
            return None if told[0] in self.schema.kinds else (UnknownName, told[0])
        if call == "put":
            source, label, target = told
            if not (0 <= source < len(kinds) and 0 <= target < len(kinds)) or told in edges:
                return InvalidGraph, None
            if not self.schema.fits(kinds[source], label, kinds[target]):
                return InvalidGraph, None
            return (InvalidGraph, None) if source == target and label not in self.schema.loops else None
        if call == "drop":
            return None if told in edges else (Missing, told)
        if call == "forget":
            return None if told[0] in questions else (UnknownName, told[0])
        if call == "undo":
            return (NothingToUndo, told[0]) if told[0] > self.at else None
        if call == "redo":
            return (NothingToUndo, told[0]) if told[0] > len(self.contents) - 1 - self.at else None
        return None


def some_call(schema, chooser, questions):
    """A call, right or wrong, with its arguments."""
    call = chooser.choice(("add", "put", "put", "put", "drop", "keep", "keep", "forget", "undo", "redo"))
    if call == "add":
        return call, chooser.choice(schema.kinds + ("x",))
    if call in ("put", "drop"):
        return call, chooser.randrange(5), chooser.choice(schema.labels + ("x",)), chooser.randrange(5)
    if call == "keep":
        return call, chooser.choice(WORDS), chooser.choice(questions), chooser.choice(READINGS)
    if call == "forget":
        return call, chooser.choice(WORDS)
    return call, chooser.choice((0, 1, 1, 2, 3, 10))


def make(store, call, told):
    if call in ("undo", "redo"):
        return getattr(store, call)(many=told[0])
    return getattr(store, call)(*told)


class Calls(Case):

    def agrees(self, store, record):
        kinds, edges, questions = record.now()
        self.assertEqual(store.graph, record.graph())
        self.assertEqual(store.schema, record.schema)
        names = tuple(sorted(questions))
        self.same([store.names, tuple(store), len(store), list(store)], [names, names, len(names), list(names)])
        self.same(str(store), f"store of {len(kinds)} nodes, {len(edges)} edges, {len(names)} questions")
        for name in WORDS:
            self.same(name in store, name in questions)
            if name in questions:
                self.assertEqual(store[name], questions[name])
            else:
                self.refused(UnknownName, store.__getitem__, name, kept=name)

    def test_record(self):
        chooser = random.Random(111)
        for schema, texts in ((ROADS, ("knows* lives", "knows knows", "road+")), (ONE, ("a*", "b b", "a a?", "b*")),
                              (MIXED, ("(go|up)*", "in up"))):
            questions = [Question.read(schema, text) for text in texts]
            for _ in range(25):
                store, record = Store(schema), Record(schema)
                self.agrees(store, record)
                for _ in range(30):
                    call, *told = some_call(schema, chooser, questions)
                    error = record.wrong(call, *told)
                    if error is None:
                        self.same(make(store, call, told), record.do(call, *told))
                    else:
                        self.refused(error[0], make, store, call, told, kept=error[1])
                    self.agrees(store, record)
                # How many can be undone, and done again.
                self.same(store.undo(many=0), record.at)
                self.same(store.redo(many=len(record.contents) - 1 - record.at), len(record.contents) - 1)
                self.same(store.undo(many=len(record.contents) - 1), 0)
                self.same(str(store), "store of 0 nodes, 0 edges, 0 questions")

    def test_what_calls_return(self):
        store = Store(ROADS)
        self.same([store.add("person"), store.add("city"), store.put(0, "lives", 1)], [0, 1, None])
        self.same([store.keep("far", FRIENDS, "walk"), store.forget("far"), store.drop(0, "lives", 1)], [None] * 3)
        self.same([store.undo(), store.undo(many=2), store.redo(), store.redo(many=2), store.undo(many=0)], [5, 3, 4, 6, 6])

    def test_undo_and_redo(self):
        store = town()
        self.same([store.undo(many=2), store.names, store.redo(), store.names], [5, (), 6, ("far",)])
        self.refused(NothingToUndo, lambda: store.redo(many=2), kept=2)
        self.same(store.redo(), 7)
        self.refused(NothingToUndo, store.redo, kept=1)
        self.refused(NothingToUndo, lambda: store.undo(many=8), kept=8)
        self.refused(NothingToUndo, lambda: store.undo(many=10 ** 59), kept=10 ** 59)
        self.same(store.undo(many=7), 0)
        self.refused(NothingToUndo, store.undo, kept=1)
        self.same([store.undo(many=0), store.redo(many=0), str(store)], [0, 0, "store of 0 nodes, 0 edges, 0 questions"])
        self.same(store.redo(many=7), 7)
        self.assertEqual(store, town())

    def test_a_new_call_ends_redoing(self):
        for call in (lambda one: one.add("city"), lambda one: one.put(1, "knows", 0), lambda one: one.drop(0, "knows", 1),
                     lambda one: one.keep("far", FRIENDS, "acyclic"), lambda one: one.forget("far")):
            store = town()
            store.undo()
            call(store)
            self.refused(NothingToUndo, store.redo, kept=1)
            self.same(store.undo(many=0), 7)
        # Neither a refused call nor one that only asks does.
        for call in (lambda one: one.add("x"), lambda one: one.put(0, "knows", 1), lambda one: one.drop(5, "knows", 1),
                     lambda one: one.keep("far", FRIENDS, "x"), lambda one: one.forget("back"),
                     lambda one: one.undo(many=50), lambda one: one["back"], lambda one: one.way("far", 0, 9)):
            store = town()
            store.undo()
            with self.assertRaises((UnknownName, InvalidGraph, Missing, NothingToUndo, InvalidNumber)):
                call(store)
            self.same([store.pairs("far"), store.undo(many=0), store.redo()], [((0, 2), (1, 2)), 6, 7])

    def test_numbers_of_calls(self):
        for name in ("undo", "redo"):
            for value in NO_COUNTS:
                store = town()
                store.undo()
                with self.subTest(value=value):
                    self.refused(InvalidNumber, lambda: getattr(store, name)(many=value), kept=value)
                    self.same(store.redo(), 7)
            self.assertRaises(TypeError, getattr(town(), name), 1)

    def test_limits(self):
        store = Store(ONE)
        for at in range(2000):
            self.assertEqual(store.add("n"), at)
        self.refused(TooMany, store.add, "n", kept=2000)
        self.refused(UnknownName, store.add, "m", kept="m")
        for at in range(2000):
            store.put(at, "a", at)
            store.put(at, "b", (at + 1) % 2000)
        self.refused(TooMany, store.put, 0, "a", 1, kept=4000)
        self.refused(InvalidGraph, store.put, 0, "a", 0)
        self.same([store.undo(many=1), str(store)], [5999, "store of 2000 nodes, 3999 edges, 0 questions"])
        self.same(store.put(0, "a", 1), None)

    def test_errors_of_edges(self):
        for call, error in (("put", InvalidGraph), ("drop", Missing)):
            for source, label, target in ((7, "knows", 1), (0, "knows", 7), (0, "road", 1), (0, "x", 1), (True, "knows", 1),
                                          (0, "knows", True), ("0", "knows", 1), (0, ["knows"], 1), (None, None, None),
                                          ({}, "knows", 1), (0, {}, 1), (0, 0, 0), (-1, "knows", 1), (2, "lives", 1)):
                store = town()
                self.refused(error, getattr(store, call), source, label, target, kept=(source, label, target))
                self.same([store.undo(many=0), store == town()], [7, True])
        self.refused(InvalidGraph, town().put, 0, "knows", 1)
        self.refused(Missing, town().drop, 1, "knows", 0, kept=(1, "knows", 0))

    def test_keep_and_forget(self):
        store = town()
        store.keep("far", FRIENDS, "simple")
        self.assertEqual(store["far"], (FRIENDS, "simple"))
        self.same([store.names, store.undo()], [("back", "far"), 7])
        self.assertEqual(store["far"], (FRIENDS, "acyclic"))
        store.forget("far")
        self.same([store.names, "far" in store, len(store)], [("back",), False, 1])
        self.refused(UnknownName, store.forget, "far", kept="far")
        self.refused(InvalidOperation, store.keep, "one", FAR, "walk")
        self.refused(InvalidOperation, store.keep, "one", FRIENDS.over(ROADS.with_loops(())), "walk")
        self.refused(UnknownName, store.keep, "one", FAR, "Walk", kept="Walk")
        self.same(store.undo(many=0), 8)


class Trials(Case):

    def test_the_store_is_as_it_was(self):
        store = town()
        store.undo()
        with store.trial() as same:
            self.assertIs(same, store)
            same.add("city")
            same.keep("x", FRIENDS, "trail")
            self.same([len(store.graph), store.names, store.undo(many=0)], [4, ("far", "x"), 8])
            same.undo(many=8)
        self.same([str(store), store.undo(many=0)], ["store of 3 nodes, 2 edges, 1 questions", 6])
        # What can be done again is there, too.
        self.same([store.redo(), store == town()], [7, True])

    def test_during(self):
        store = town()
        self.same(store.during(lambda one: (one is store, one.add("city"), one.undo(many=4), one.names)), (True, 3, 4, ()))
        self.same([store == town(), store.undo(many=0)], [True, 7])
        self.same([store.during(len), store.during(lambda one: None)], [2, None])

    def test_errors_go_on(self):
        store = town()
        with self.assertRaises(ZeroDivisionError):
            with store.trial() as same:
                same.forget("far")
                raise ZeroDivisionError
        self.same([store == town(), store.undo(many=0)], [True, 7])

        def wrong(one):
            one.drop(0, "knows", 1)
            one.undo(many=3)
            one.add("x")

        self.refused(UnknownName, store.during, wrong, kept="x")
        self.same([store == town(), store.undo(many=0)], [True, 7])
        self.refused(NothingToUndo, store.redo, kept=1)

    def test_blocks_end_early(self):
        store = town()
        for _ in range(2):
            with store.trial() as same:
                same.add("city")
                continue
        for _ in range(2):
            with store.trial() as same:
                same.add("city")
                break
        self.same([len(store.graph), store.undo(many=0)], [3, 7])

    def test_nested(self):
        store = town()
        with store.trial():
            store.add("city")
            with store.trial() as same:
                same.undo(many=5)
                same.add("city")
                self.same(same.during(lambda one: [one.add("person"), one.undo(many=0)]), [4, 5])
                self.same([len(same.graph), same.undo(many=0)], [4, 4])
            self.same([len(store.graph), store.undo(many=0), store.names], [4, 8, ("back", "far")])
            with self.assertRaises(UnknownName):
                with store.trial() as same:
                    same.put(1, "knows", 0)
                    same.forget("x")
            self.same(store.undo(many=0), 8)
        self.same([store == town(), store.undo(many=0)], [True, 7])

    def test_one_block_again_and_within_itself(self):
        store = town()
        block = store.trial()
        # It is as it was at the beginning of the block, not when that was made.
        store.add("city")
        for many in (4, 5):
            with block as same:
                same.add("person")
                with block:
                    same.undo(many=6)
                self.same([len(same.graph), same.undo(many=0)], [many + 1, many + 5])
            self.same([len(store.graph), store.undo(many=0)], [many, many + 4])
            store.add("city")

    def test_twins_within(self):
        store = town()
        with store.trial() as same:
            same.add("city")
            twin = same.twin()
        self.same([len(twin.graph), len(store.graph), twin.undo(many=0)], [4, 3, 8])


class Values(Case):

    def test_twins(self):
        store = town()
        store.undo()
        twin = store.twin()
        self.same([twin == store, twin is store, twin.undo(many=0)], [True, False, 6])
        twin.redo()
        twin.add("city")
        self.same([len(store.graph), len(twin.graph), store.names], [3, 4, ("far",)])
        self.same([store.redo(), store.undo(many=7), twin.undo(many=8)], [7, 0, 0])
        store.add("city")
        self.same([twin.redo(many=8), len(twin.graph), len(store.graph)], [8, 4, 1])

    def test_equal_stores(self):
        self.same([town() == town(), town() != town(), Store(ONE) == Store(ONE)], [True, False, True])
        # What can be undone makes no difference.
        store = town()
        store.add("city")
        self.same([store == town(), store.undo(), store == town(), store.redo(), store == town()], [False, 7, True, 8, False])
        for change in (lambda one: one.forget("far"), lambda one: one.keep("far", FRIENDS, "simple"),
                       lambda one: one.keep("far", Question.read(ROADS, "lives"), "acyclic"),
                       lambda one: one.drop(0, "knows", 1), lambda one: one.keep("x", FRIENDS, "acyclic")):
            store = town()
            change(store)
            self.same([store == town(), store != town(), town() == store], [False, True, False])
        self.same([Store(ONE) == Store(ROADS), Store(ONE) == Store(ONE.with_loops(()))], [False, False])
        for value in STRANGE + ((), 0, Graph(ROADS, (), ()), ROADS, FRIENDS, "store"):
            self.same([Store(ROADS) == value, Store(ROADS) != value, value == Store(ROADS)], [False, True, False])

    def test_order_of_the_calls(self):
        one, other = Store(ROADS), Store(ROADS)
        for name in ("b", "a", "c"):
            one.keep(name, FRIENDS, "walk")
        for name in ("c", "b", "a"):
            other.keep(name, FRIENDS, "walk")
        self.same([one == other, one.names, tuple(one), list(other)], [True, ("a", "b", "c"), ("a", "b", "c"),
                                                                       ["a", "b", "c"]])

    def test_values_in_stores(self):
        for value in STRANGE + ((), 0, ("far",), ["far"], FRIENDS, ROADS, "Far", "near"):
            self.same(value in town(), False)
            self.refused(UnknownName, town().__getitem__, value, kept=value)
        self.same("far" in town(), True)
        self.assertEqual(town()["far"], (FRIENDS, "acyclic"))

    def test_iteration(self):
        store = town()
        for name in store:
            store.forget(name)
        self.same([store.names, list(store), [*town()], sorted(town()), max(town())],
                  [(), [], ["back", "far"], ["back", "far"], "far"])

    def test_what_is_told_can_be_changed(self):
        store = town()
        names, graph, pairs = list(store.names), store.graph, list(store.pairs("far"))
        names.append("x")
        pairs.clear()
        graph.with_node("city")
        store.add("city")
        self.same([store.names, store.pairs("far"), len(graph), len(store.graph)],
                  [("back", "far"), ((0, 2), (1, 2)), 3, 4])
        self.assertEqual([store["far"], store["far"]], [(FRIENDS, "acyclic")] * 2)

    def test_properties(self):
        store = Store(MIXED)
        self.same([store.schema == MIXED, store.graph == Graph(MIXED, (), ()), store.names], [True, True, ()])
        for name in ("schema", "graph", "names"):
            self.assertRaises(AttributeError, setattr, store, name, ())


class Answers(Case):

    def answers(self, store, name):
        """The answers of a store are those of plain search by the asked reading."""
        question, reading = store[name]
        graph = store.graph
        pairs = pairs_by_search(question, graph, reading)
        self.same(store.plan(name), widest(question, reading))
        self.same(store.pairs(name), tuple(sorted(pairs)))
        for source in range(len(graph)):
            for target in range(len(graph)):
                self.same(store.has_pair(name, source, target), (source, target) in pairs)
                found = store.way(name, source, target)
                self.same(found is not None, (source, target) in pairs)
                if found is not None:
                    self.same([found[0], found[-1], plainly_counts(found, reading)], [source, target, True])
                    self.assertTrue(all(found[at:at + 3] in graph for at in range(0, len(found) - 1, 2)))
                    self.assertIn(plain_word(graph, found), question)

    def test_behind_each_change(self):
        chooser = random.Random(121)
        for schema in (ONE, ONE.with_loops(("a", "b")), ROADS, MIXED):
            questions = [Question(schema, one) for one in some_expressions(schema, chooser, 20)[-12:]]
            questions += [Question.of_machine(schema, some_machine(schema, chooser, 4)) for _ in range(4)]
            for _ in range(6):
                store = Store(schema)
                for name in WORDS:
                    store.keep(name, chooser.choice(questions), chooser.choice(READINGS))
                graph = some_graph(schema, chooser, 3, 5)
                for kind in graph.kinds:
                    store.add(kind)
                for edge in graph.edges:
                    store.put(*edge)
                    self.answers(store, chooser.choice(WORDS))
                for name in WORDS:
                    self.answers(store, name)
                before = [store.pairs(name) for name in WORDS]
                if graph.edges:
                    store.drop(*chooser.choice(graph.edges))
                    self.answers(store, chooser.choice(WORDS))
                    store.undo()
                store.keep("far", chooser.choice(questions), chooser.choice(READINGS))
                self.answers(store, "far")
                store.undo()
                self.same([store.pairs(name) for name in WORDS], before)
                store.undo(many=len(graph.edges))
                self.answers(store, chooser.choice(WORDS))
                store.redo(many=len(graph.edges))
                self.same([store.pairs(name) for name in WORDS], before)

    def test_plans(self):
        store = town()
        self.same([store.plan("far"), store.plan("back")], ["walk", "walk"])
        for reading in READINGS:
            store.keep("back", Question.read(ROADS, "knows knows"), reading)
            self.same(store.plan("back"), "acyclic" if reading == "acyclic" else "walk")
        for text, plans in (("road road", ("walk", "trail", "simple", "acyclic")), ("lives road", ("walk", "walk", "simple", "simple"))):
            for reading, plan in zip(READINGS, plans):
                store.keep("x", Question.read(ROADS, text), reading)
                self.same(store.plan("x"), plan)

    def test_ways_count_by_the_asked_reading(self):
        store = Store(ONE)
        for _ in range(30):
            store.add("n")
        for source in range(30):
            for target in range(30):
                if source != target:
                    store.put(source, "b", target)
        # Far too many ways to look at each, but the plan is to walk.
        store.keep("all", Question.read(ONE, "(a|b)*"), "acyclic")
        self.same([store.plan("all"), len(store.pairs("all"))], ["walk", 900])
        self.same([store.way("all", 3, 3), store.way("all", 3, 4)], [(3,), (3, "b", 4)])
        store.keep("twice", TWICE, "simple")
        self.same([store.plan("twice"), store.way("twice", 3, 3)], ["walk", (3, "b", 0, "b", 3)])
        store.keep("twice", TWICE, "acyclic")
        self.same([store.plan("twice"), store.way("twice", 3, 3)], ["acyclic", None])


class Wrong(Case):

    def test_first_wrong_argument_decides(self):
        self.first_wrong_decides(Store, (ROADS,), ((InvalidSchema, NO_SCHEMAS),))
        self.first_wrong_decides(town().add, ("city",), ((UnknownName, STRANGE + ("n", "road", ["city"], ("city",))),))
        self.first_wrong_decides(town().keep, ("far", FRIENDS, "walk"), (
            (InvalidName, NO_NAMES), (InvalidQuestion, NO_QUESTIONS), (UnknownName, NO_READINGS),
        ))
        unknown, node = (UnknownName, NO_NAMES + ("near",)), (InvalidNumber, NO_NODES)
        for name in ("forget", "plan", "pairs"):
            for value in unknown[1]:
                self.refused(UnknownName, getattr(town(), name), value, kept=value)
        for name in ("has_pair", "way"):
            self.first_wrong_decides(getattr(town(), name), ("far", 0, 2), (unknown, node, node))

    def test_refused_calls_change_nothing(self):
        store = town()
        for call in (lambda: store.add("x"), lambda: store.put(0, "knows", 1), lambda: store.drop(1, "knows", 0),
                     lambda: store.keep("Far", FRIENDS, "walk"), lambda: store.keep("far", FAR, "walk"),
                     lambda: store.keep("far", HOME, "walk"), lambda: store.keep("far", FRIENDS, "fast"),
                     lambda: store.forget("x"), lambda: store.undo(many=8), lambda: store.redo(), lambda: store["x"]):
            with self.assertRaises((UnknownName, InvalidGraph, Missing, InvalidName, InvalidOperation, InvalidQuestion,
                                    NothingToUndo)):
                call()
            self.same([store == town(), store.undo(many=0)], [True, 7])
            self.assertEqual(told_of(store), told_of(town()))
