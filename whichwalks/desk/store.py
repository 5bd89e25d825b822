"""A store that keeps a graph and questions, and answers each question by the widest reading that agrees."""
from whichwalks.ask.questions import check_question
from whichwalks.base.names import is_integer, is_name
from whichwalks.base.schemas import check_same_schema, check_schema
from whichwalks.cut.readings import widest
from whichwalks.errors import InvalidName, InvalidNumber, NothingToUndo, UnknownName
from whichwalks.graph.graphs import Graph
from whichwalks.graph.ways import check_reading, pairs, way


class Content:
    """What a store has between two calls: a graph, and the dict from ascending names to (question, reading, plan).

    It never changes.
    """

    def __init__(self, graph, questions):
        self.whole = graph
        self.asked = questions


class Held:
    """What a store had when a trial began, and what was held by the same trial ahead of that."""

    def __init__(self, past, now, future, outer):
        self.past = past
        self.now = now
        self.future = future
        self.outer = outer


class Trial:
    """A block at whose end a store is as it was."""

    def __init__(self, store):
        self.same = store
        self.held = None

    def __enter__(self):
        self.held = self.same.hold(self.held)
        return self.same

    def __exit__(self, kind, value, trace):
        self.same._past = self.held.past
        self.same._now = self.held.now
        self.same._future = self.held.future
        self.held = self.held.outer


class Store:
    """A graph that changes, and questions under names, each with a reading."""

    def __init__(self, schema):
        check_schema(schema)
        # The contents ahead of each call that can be undone, and those behind each one that can be done again.
        self._past = ()
        self._now = Content(Graph(schema, (), ()), {})
        self._future = ()

    @property
    def schema(self):
        """The schema of the graph and the questions."""
        return self._now.whole.schema

    @property
    def graph(self):
        """The graph."""
        return self._now.whole

    @property
    def names(self):
        """The ascending tuple of the names of the questions."""
        return tuple(self._now.asked)

    def __getitem__(self, name):
        if name not in self:
            raise UnknownName(name)
        question, reading, _ = self._now.asked[name]
        return question, reading

    def __contains__(self, value):
        return isinstance(value, str) and value in self._now.asked

    def __iter__(self):
        return iter(self._now.asked)

    def __len__(self):
        return len(self._now.asked)

    def __eq__(self, other):
        return (
            isinstance(other, Store) and self._now.whole == other._now.whole
            and self._now.asked == other._now.asked
        )

    def __str__(self):
        return f"store of {len(self.graph)} nodes, {len(self.graph.edges)} edges, {len(self)} questions"

    def add(self, kind):
        """Add a node, and return its number."""
        self.change(self._now.whole.with_node(kind), self._now.asked)
        return len(self._now.whole) - 1

    def put(self, source, label, target):
        """Add an edge."""
        self.change(self._now.whole.with_edge((source, label, target)), self._now.asked)

    def drop(self, source, label, target):
        """Take an edge away."""
        self.change(self._now.whole.without_edge((source, label, target)), self._now.asked)

    def keep(self, name, question, reading):
        """Keep a question under a name, to be asked by a reading."""
        if not is_name(name):
            raise InvalidName("this is no name")
        check_question(question)
        check_reading(reading)
        check_same_schema(question.schema, self.schema)
        known = dict(self._now.asked)
        known[name] = (question, reading, widest(question, reading))
        self.change(self._now.whole, {one: known[one] for one in sorted(known)})

    def forget(self, name):
        """Forget the question under a name."""
        self.check_name(name)
        known = self._now.asked
        self.change(self._now.whole, {one: known[one] for one in known if one != name})

    def plan(self, name):
        """The widest reading that agrees with the asked one for the question."""
        self.check_name(name)
        return self._now.asked[name][2]

    def pairs(self, name):
        """The ascending tuple of the pairs of the question by the asked reading."""
        question, _ = self[name]
        return pairs(question, self._now.whole, self.plan(name))

    def has_pair(self, name, source, target):
        """Whether this is a pair of the question by the asked reading."""
        return self.way(name, source, target) is not None

    def way(self, name, source, target):
        """A way from node to node that counts by the asked reading and has its word in the question, or None."""
        question, _ = self[name]
        # Shortest ways by the plan count by the asked reading: what does not could be cut, and were shorter then.
        return way(question, self._now.whole, self.plan(name), source, target)

    def undo(self, *, many=1):
        """Take back so many calls, and return how many can be undone then."""
        check_calls(many, len(self._past))
        return self.move(-many)

    def redo(self, *, many=1):
        """Do so many calls again, and return how many can be undone then."""
        check_calls(many, len(self._future))
        return self.move(many)

    def trial(self):
        """A block at whose end the store is as it was."""
        return Trial(self)

    def during(self, call):
        """What the call returns of the store, which is as it was then."""
        with self.trial() as same:
            return call(same)

    def twin(self):
        """An independent copy, also of what can be undone and done again."""
        other = Store(self.schema)
        other._past = self._past
        other._now = self._now
        other._future = self._future
        return other

    def check_name(self, name):
        """Raise UnknownName unless the value is the name of a question."""
        if name not in self:
            raise UnknownName(name)

    def change(self, graph, questions):
        """Have this graph and these questions, by a call that can be undone."""
        self._past = self._past + (self._now,)
        self._now = Content(graph, questions)
        self._future = ()

    def move(self, many):
        """Go so many calls on, or back, and return how many can be undone then."""
        contents = self._past + (self._now,) + self._future
        at = len(self._past) + many
        self._past = contents[:at]
        self._now = contents[at]
        self._future = contents[at + 1:]
        return at

    def hold(self, outer):
        """All that the store has, to be taken back."""
        return Held(self._past, self._now, self._future, outer)


def check_calls(many, known):
    """Raise an error unless the value is a number of so many calls that are known, or fewer."""
    if not is_integer(many) or many < 0:
        raise InvalidNumber(many)
    if many > known:
        raise NothingToUndo(many)
