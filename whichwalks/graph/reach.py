"""What walks reach, and the papers that show whether they reach a node."""
from whichwalks.ask.questions import check_question, does_ascend, is_state
from whichwalks.base.schemas import check_same_schema
from whichwalks.graph.graphs import check_graph, check_node, is_node
from whichwalks.graph.search import beginning, reach_on, steps_of, way_to
from whichwalks.graph.ways import is_way, word_of


def reached(question, graph, start):
    """The ascending tuple of all pairs (node, state) to which ways from the node lead."""
    check_question(question)
    check_graph(graph)
    check_node(graph, start)
    check_same_schema(question.schema, graph.schema)
    return tuple(sorted(list(walks_from(question, graph, start))))


def walk_paper(question, graph, start, end):
    """A paper that a way leads from node to node whose word is in the question, or that none does."""
    check_asked_walk(question, graph, start, end)
    places = walks_from(question, graph, start)
    for place in places:
        if place[0] == end and place[1] in question.machine[3]:
            return "way", (start,) + way_to(places, place)
    return "none", tuple(sorted(list(places)))


def is_walk_paper(question, graph, start, end, value):
    """Whether the value is such a paper."""
    check_asked_walk(question, graph, start, end)
    if not isinstance(value, tuple) or len(value) != 2:
        return False
    told = value[1]
    if value[0] == "way":
        return is_way(graph, told) and told[0] == start and told[-1] == end and word_of(graph, told) in question
    return value[0] == "none" and is_table(question, graph, start, end, told)


def check_asked_walk(question, graph, start, end):
    """Raise an error unless these are a question, a graph of its schema, and two nodes."""
    check_question(question)
    check_graph(graph)
    check_node(graph, start)
    check_node(graph, end)
    check_same_schema(question.schema, graph.schema)


def walks_from(question, graph, start):
    """The places that walks from a node reach, as a dict that tells the shortest ones."""
    begin = beginning(question, graph, "walk", start)
    return {} if begin is None else reach_on(steps_of(question, graph), "walk", begin)


def is_table(question, graph, start, end, value):
    """Whether the value is a table which shows that no way leads from start to end whose word is in the question."""
    if not isinstance(value, tuple) or not all([is_place(question, graph, pair) for pair in value]):
        return False
    if not does_ascend(value):
        return False
    known = {pair: True for pair in value}
    first = question.firsts.get(graph.kinds[start])
    if first is not None and (start, first) not in known:
        return False
    if any([(end, state) in known for state in question.machine[3]]):
        return False
    steps = steps_of(question, graph)
    return all([(node, state) in known for pair in value for _, node, state, _ in steps.get(pair, [])])


def is_place(question, graph, value):
    """Whether the value is a pair of a node and a state of its kind."""
    if not isinstance(value, tuple) or len(value) != 2:
        return False
    node, state = value
    if not is_node(graph.kinds, node) or not is_state(question.machine[0], state):
        return False
    return graph.kinds[node] == question.machine[0][state]
