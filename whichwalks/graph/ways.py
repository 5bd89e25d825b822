"""Ways of a graph, by the four readings."""
from whichwalks.ask.questions import check_question, check_size
from whichwalks.base.schemas import check_same_schema
from whichwalks.errors import InvalidOperation, TooMany, UnknownName
from whichwalks.graph.graphs import check_graph, check_node, is_node
from whichwalks.graph.search import (
    beginning, does_end, fewest_edges, longer_ways, most_edges, reach_on, shortest_way, steps_of,
)

READINGS = ("walk", "trail", "simple", "acyclic")
MAX_WAYS = 20000
MAX_LENGTH = 12


def is_way(graph, value):
    """Whether the value is a way of the graph."""
    check_graph(graph)
    if not isinstance(value, tuple) or len(value) % 2 == 0:
        return False
    if not all([is_node(graph.kinds, node) for node in value[::2]]):
        return False
    return all([edge in graph for edge in edges_in(value)])


def word_of(graph, way):
    """The word of the way."""
    check_way(graph, way)
    kinds = graph.kinds
    return tuple([kinds[part] if at % 2 == 0 else part for at, part in enumerate(way)])


def does_count(graph, way, reading):
    """Whether the way counts by the reading."""
    check_way(graph, way)
    check_reading(reading)
    if reading == "walk":
        return True
    if reading == "trail":
        return are_different(edges_in(way))
    nodes = way[::2]
    # By "simple" the last node can be the first one, and is left out then.
    return are_different(nodes[1:] if reading == "simple" and nodes[0] == nodes[-1] else nodes)


def ways(question, graph, reading, size):
    """The ascending tuple of all ways with at most so many edges that count and whose words are in the question."""
    check_asked(question, graph, reading)
    check_size(size, MAX_LENGTH)
    check_same_schema(question.schema, graph.schema)
    steps, lasts = steps_of(question, graph), question.machine[3]
    fewest = fewest_edges(steps, lasts, graph, question.machine[0])
    most = size if reading == "walk" else min(size, most_edges(graph, reading, True))
    todo = beginnings(question, graph, reading)
    found = []
    while todo:
        partial = todo.pop()
        if does_end(steps, lasts, fewest, reading, partial, most - len(partial[0]) // 2):
            if partial[1] in lasts:
                found.append(partial[0])
            if len(found) > MAX_WAYS:
                raise TooMany(MAX_WAYS)
            todo.extend(longer_ways(steps, reading, partial))
    return tuple(sorted(found))


def way(question, graph, reading, start, end):
    """A way with the fewest edges that counts, leads from node to node and has its word in the question, or None."""
    check_asked(question, graph, reading)
    check_node(graph, start)
    check_node(graph, end)
    check_same_schema(question.schema, graph.schema)
    begin = beginning(question, graph, reading, start)
    if begin is None:
        return None
    return shortest_way(steps_of(question, graph), question.machine[3], reading, begin, end, graph)


def pairs(question, graph, reading):
    """The ascending tuple of all pairs of nodes between which a way counts and has its word in the question."""
    check_asked(question, graph, reading)
    check_same_schema(question.schema, graph.schema)
    steps, lasts = steps_of(question, graph), question.machine[3]
    found = []
    for begin in beginnings(question, graph, reading):
        # Of most nodes that a walk reaches the shortest one counts; only for the others a search is needed.
        ends = {}
        for (node, state), (_, _, _, counts) in reach_on(steps, reading, begin).items():
            if state in lasts:
                ends[node] = counts or ends.get(node, False)
        for node in sorted(list(ends)):
            if ends[node] or shortest_way(steps, lasts, reading, begin, node, graph) is not None:
                found.append((begin[0][0], node))
    return tuple(found)


def beginnings(question, graph, reading):
    """The ascending list of the partial ways without edges at nodes of whose kind the question has a word."""
    begins = [beginning(question, graph, reading, node) for node in range(len(graph))]
    return [begin for begin in begins if begin is not None]


def edges_in(way):
    """The list of the triples of the edges of a tuple that has the length of a way."""
    return [way[at:at + 3] for at in range(0, len(way) - 2, 2)]


def are_different(values):
    """Whether no value is there twice."""
    return len(set(values)) == len(values)


def check_asked(question, graph, reading):
    """Raise an error unless these are a question, a graph and a reading."""
    check_question(question)
    check_graph(graph)
    check_reading(reading)


def check_reading(value):
    """Raise UnknownName unless the value is a reading."""
    if value not in READINGS:
        raise UnknownName(value)


def check_way(graph, value):
    """Raise an error unless these are a graph and a way of it."""
    if not is_way(graph, value):
        raise InvalidOperation("this is no way of the graph")
