"""Graphs: nodes with kinds, and edges with labels."""
from whichwalks.base.names import is_integer
from whichwalks.base.schemas import check_schema
from whichwalks.base.words import edges_of
from whichwalks.errors import InvalidGraph, InvalidNumber, InvalidOperation, Missing, TooMany, UnknownName

MAX_NODES = 2000
MAX_EDGES = 4000


class Checked:
    """The edges of a new graph that were checked already; so an edit of a large graph does not check them all again."""

    def __init__(self, edges):
        self.told = edges


class Graph:
    """The kinds of the nodes, and the edges, of a schema."""

    def __init__(self, schema, kinds, edges):
        check_schema(schema)
        if isinstance(edges, Checked):
            self._edges = edges.told
        else:
            check_kinds(schema, kinds)
            check_edges(schema, kinds, edges)
            self._edges = edges
        self._schema = schema
        self._kinds = kinds

    @property
    def schema(self):
        """The schema of the graph."""
        return self._schema

    @property
    def kinds(self):
        """The tuple of the kinds of the nodes."""
        return self._kinds

    @property
    def edges(self):
        """The ascending tuple of the edges."""
        return self._edges

    def __getitem__(self, node):
        check_node(self, node)
        return self._edges[place_of(self._edges, (node,)):place_of(self._edges, (node + 1,))]

    def __contains__(self, value):
        if not is_triple(self._kinds, value) or not isinstance(value[1], str):
            return False
        at = place_of(self._edges, value)
        return at < len(self._edges) and self._edges[at] == value

    def __iter__(self):
        # Without this, Python would iterate over a class that has indexes.
        raise TypeError("a graph is not iterated over")

    def __len__(self):
        return len(self._kinds)

    def __eq__(self, other):
        return (
            isinstance(other, Graph) and self._schema == other._schema
            and self._kinds == other._kinds and self._edges == other._edges
        )

    def __str__(self):
        return f"graph of {len(self._kinds)} nodes, {len(self._edges)} edges"

    def with_node(self, kind):
        """The graph with one more node, the last one."""
        if kind not in self._schema.kinds:
            raise UnknownName(kind)
        check_many(len(self._kinds) + 1, MAX_NODES)
        return Graph(self._schema, self._kinds + (kind,), Checked(self._edges))

    def with_edge(self, edge):
        """The graph with one more edge."""
        if not can_be_edge(self._schema, self._kinds, edge) or edge in self:
            raise InvalidGraph("there can be no such edge, or it is there")
        check_many(len(self._edges) + 1, MAX_EDGES)
        at = place_of(self._edges, edge)
        return Graph(self._schema, self._kinds, Checked(self._edges[:at] + (edge,) + self._edges[at:]))

    def without_edge(self, edge):
        """The graph without one of its edges."""
        if edge not in self:
            raise Missing(edge)
        at = place_of(self._edges, edge)
        return Graph(self._schema, self._kinds, Checked(self._edges[:at] + self._edges[at + 1:]))

    def turned(self):
        """The graph with each edge from its target to its source, over the turned schema."""
        edges = sorted([(target, label, source) for source, label, target in self._edges])
        return Graph(self._schema.turned(), self._kinds, Checked(tuple(edges)))

    def __or__(self, other):
        if not isinstance(other, Graph) or self._schema != other._schema:
            raise InvalidOperation("the other operand is no graph of an equal schema")
        check_many(len(self._kinds) + len(other._kinds), MAX_NODES)
        check_many(len(self._edges) + len(other._edges), MAX_EDGES)
        many = len(self._kinds)
        edges = tuple([(source + many, label, target + many) for source, label, target in other._edges])
        return Graph(self._schema, self._kinds + other._kinds, Checked(self._edges + edges))

    def __ror__(self, other):
        # It runs only if the first operand is no graph, because two graphs never come here.
        raise InvalidOperation("the first operand is no graph")


def path_graph(schema, word):
    """The graph of a way with this word through nodes 0, 1 and so on."""
    edges = edges_of(schema, word)
    check_many(len(edges) + 1, MAX_NODES)
    return Graph(schema, word[::2], Checked(tuple([(at, edge[1], at + 1) for at, edge in enumerate(edges)])))


def check_graph(value):
    """Raise InvalidGraph unless the value is a graph."""
    if not isinstance(value, Graph):
        raise InvalidGraph("this is no graph")


def check_node(graph, value):
    """Raise InvalidNumber unless the value is a node of the graph."""
    if not is_node(graph.kinds, value):
        raise InvalidNumber(value)


def check_kinds(schema, value):
    """Raise InvalidGraph unless these can be the kinds of the nodes of a graph."""
    if not isinstance(value, tuple) or len(value) > MAX_NODES:
        raise InvalidGraph("the kinds are no tuple of at most 2000")
    if not all([kind in schema.kinds for kind in value]):
        raise InvalidGraph("a node has no kind of the schema")


def check_edges(schema, kinds, value):
    """Raise InvalidGraph unless these can be the edges of a graph whose nodes have these kinds."""
    if not isinstance(value, tuple) or len(value) > MAX_EDGES:
        raise InvalidGraph("the edges are no tuple of at most 4000")
    if not all([can_be_edge(schema, kinds, edge) for edge in value]):
        raise InvalidGraph("there can be no such edge")
    if not all([one < other for one, other in zip(value, value[1:])]):
        raise InvalidGraph("the edges do not ascend")


def check_many(many, limit):
    """Raise TooMany if these are more than the limit."""
    if many > limit:
        raise TooMany(limit)


def is_node(kinds, value):
    """Whether the value is a node, if the nodes have these kinds."""
    return is_integer(value) and 0 <= value < len(kinds)


def is_triple(kinds, value):
    """Whether the value is a tuple of a node, something, and a node."""
    return isinstance(value, tuple) and len(value) == 3 and is_node(kinds, value[0]) and is_node(kinds, value[2])


def can_be_edge(schema, kinds, value):
    """Whether the value can be an edge of a graph whose nodes have these kinds."""
    if not is_triple(kinds, value):
        return False
    source, label, target = value
    if not schema.fits(kinds[source], label, kinds[target]):
        return False
    return source != target or label in schema.loops


def place_of(edges, edge):
    """The number of the ascending edges that are less than this one."""
    low = 0
    high = len(edges)
    while low < high:
        middle = (low + high) // 2
        if edges[middle] < edge:
            low = middle + 1
        else:
            high = middle
    return low
