"""Drawings: graphs in which the two places, or the two edges, of each cut of a word are one."""
from whichwalks.base.words import check_word
from whichwalks.cut.cuts import check_condition, is_cut
from whichwalks.errors import InvalidOperation
from whichwalks.graph.graphs import MAX_EDGES, MAX_NODES, Graph, check_many


def drawn(schema, word, condition, *cuts):
    """The triple (graph, start, end) of the drawing of a word with cuts."""
    return drawn_of(schema, word, condition, cuts)


def drawn_of(schema, word, condition, cuts):
    """The triple (graph, start, end) of the drawing of a word with the tuple of its cuts."""
    check_cuts(schema, word, condition, cuts)
    nodes = nodes_of(word, condition, cuts)
    kinds = dict(zip(nodes, word[::2]))
    check_many(len(kinds), MAX_NODES)
    edges = sorted(set([(nodes[at], word[2 * at + 1], nodes[at + 1]) for at in range(len(nodes) - 1)]))
    # With many double edges there can be more edges than a graph has, although there are not too many nodes.
    check_many(len(edges), MAX_EDGES)
    return Graph(schema, tuple([kinds[node] for node in range(len(kinds))]), tuple(edges)), nodes[0], nodes[-1]


def drawn_way(schema, word, condition, cuts):
    """The way in the drawing that has the whole word."""
    check_cuts(schema, word, condition, cuts)
    nodes = nodes_of(word, condition, cuts)
    return tuple([nodes[at // 2] if at % 2 == 0 else sign for at, sign in enumerate(word)])


def rest(schema, word, condition, cuts):
    """The word that all the cuts leave together."""
    check_cuts(schema, word, condition, cuts)
    if has_double(condition, cuts):
        raise InvalidOperation("a double edge leaves two words")
    return word_left_by(word, condition, cuts)


def check_cuts(schema, word, condition, value):
    """Raise an error unless these are a word, a condition, and cuts of the word by it that are apart."""
    check_word(schema, word)
    check_condition(condition)
    if not are_apart(schema, word, condition, value):
        raise InvalidOperation("these are no cuts of the word that are apart")


def are_apart(schema, word, condition, value):
    """Whether the value is a tuple of cuts of the word by the condition that are apart."""
    if not isinstance(value, tuple) or not all([isinstance(cut, tuple) and len(cut) == 2 for cut in value]):
        return False
    if not all([is_cut(schema, word, condition, first, second) for first, second in value]):
        return False
    return all([one[1] < other[0] for one, other in zip(value, value[1:])])


def has_double(condition, cuts):
    """Whether one of the cuts by the condition is a double edge."""
    return condition == "edges" and any([second - first == 1 for first, second in cuts])


def nodes_of(word, condition, cuts):
    """The list of the nodes of the places of the word in its drawing."""
    same = {}
    for first, second in cuts:
        same[second] = first
        # Edges are one with both their nodes.
        if condition == "edges":
            same[second + 1] = first + 1
    nodes = []
    many = 0
    for place in range(len(word) // 2 + 1):
        if place in same:
            nodes.append(nodes[same[place]])
        else:
            nodes.append(many)
            many += 1
    return nodes


def word_left_by(word, condition, cuts):
    """The word that cuts which are apart, and no double edges, leave together."""
    # An edge cut keeps the first one of both edges.
    kept = int(condition == "edges")
    signs = []
    begin = 0
    for first, second in cuts:
        signs.extend(word[begin:2 * (first + kept)])
        begin = 2 * (second + kept)
    signs.extend(word[begin:])
    return tuple(signs)
