"""Texts of schemas, graphs, questions and values, and the values of texts."""
from whichwalks.ask.questions import MAX_STATES, Question, check_question, does_ascend, is_machine
from whichwalks.base.names import is_name
from whichwalks.base.schemas import Schema, check_schema
from whichwalks.errors import InvalidGraph, InvalidOperation, InvalidSchema, ParseError
from whichwalks.graph.graphs import Graph, check_graph
from whichwalks.text.values import MAX_DEPTH, is_number, value_of_words, words_of_value


def write_schema(schema):
    """The text of a schema."""
    check_schema(schema)
    lines = [" ".join(("kinds",) + schema.kinds)]
    for label in schema.labels:
        sources, targets, loops = schema[label]
        lines.append(" ".join(("label", label) + sources + ("->",) + targets + ("loops" if loops else "apart",)))
    return "\n".join(lines)


def write_graph(graph):
    """The text of a graph."""
    check_graph(graph)
    lines = [f"node {kind}" for kind in graph.kinds]
    return "\n".join(lines + [f"edge {source} {label} {target}" for source, label, target in graph.edges])


def write_question(question):
    """The text of a question, which tells its machine."""
    check_question(question)
    kinds, firsts, steps, lasts = question.machine
    below = [[] for _ in kinds]
    for state, label, target in steps:
        below[state].append(f"step {label} {target}")
    lines = []
    for state, kind in enumerate(kinds):
        marks = ["first"] if state in firsts else []
        lines.append(" ".join(["state", kind] + marks + (["last"] if state in lasts else [])))
        lines.extend(below[state])
    return "\n".join(lines)


def write_value(value):
    """The text of a value, one line."""
    return " ".join(words_of_value(value, MAX_DEPTH))


def read_schema(text):
    """The schema with this text."""
    lines = lines_of(text)
    labels = {}
    for at, words in enumerate(lines):
        is_right = are_names(words[1:]) if words[0] == "kinds" else is_label(words)
        if not is_right or (words[0] == "kinds") != (at == 0):
            raise ParseError(at)
        if at > 0:
            if at > 1 and words[1] <= lines[at - 1][1]:
                raise ParseError(at)
            middle = words.index("->")
            labels[words[1]] = (tuple(words[2:middle]), tuple(words[middle + 1:-1]), words[-1] == "loops")
    try:
        return Schema(tuple(lines[0][1:]) if lines else (), labels)
    except InvalidSchema:
        raise ParseError(len(lines)) from None


def read_graph(schema, text):
    """The graph of the schema with this text."""
    check_schema(schema)
    lines = lines_of(text)
    kinds = []
    edges = []
    for at, words in enumerate(lines):
        if words[0] == "node" and len(words) == 2 and is_name(words[1]) and not edges:
            kinds.append(words[1])
        elif is_edge(words) and does_ascend(edges[-1:] + [edge_of(words)]):
            edges.append(edge_of(words))
        else:
            raise ParseError(at)
    try:
        return Graph(schema, tuple(kinds), tuple(edges))
    except InvalidGraph:
        raise ParseError(len(lines)) from None


def read_question(schema, text):
    """The question over the schema with this text."""
    check_schema(schema)
    lines = lines_of(text)
    kinds = []
    marks = []
    steps = []
    for at, words in enumerate(lines):
        if is_state_line(words):
            kinds.append(words[1])
            marks.append(words[2:])
        elif is_step_line(words) and kinds:
            step = (len(kinds) - 1, words[1], int(words[2]))
            if steps and steps[-1] >= step:
                raise ParseError(at)
            steps.append(step)
        else:
            raise ParseError(at)
    firsts = tuple([state for state, told in enumerate(marks) if "first" in told])
    lasts = tuple([state for state, told in enumerate(marks) if "last" in told])
    machine = (tuple(kinds), firsts, tuple(steps), lasts)
    # No question has more states, so none of its least machine needs to be sought.
    if len(kinds) <= MAX_STATES and is_machine(schema, machine):
        question = Question.of_machine(schema, machine)
        if question.machine == machine:
            return question
    raise ParseError(len(lines))


def read_value(text):
    """The value with this text."""
    lines = lines_of(text)
    if not lines:
        raise ParseError(0)
    value = value_of_words(lines[0])
    if len(lines) > 1:
        raise ParseError(1)
    return value


def lines_of(text):
    """The list of the lines of a text, each as the list of its words."""
    if not isinstance(text, str):
        raise InvalidOperation("this is no text")
    return [line.split(" ") for line in text.split("\n")] if text else []


def are_names(words):
    """Whether all words are names."""
    return all([is_name(word) for word in words])


def is_label(words):
    """Whether the words are those of a line that tells a label."""
    if words[0] != "label" or words[-1] not in ("loops", "apart"):
        return False
    middle = words[1:-1]
    return middle.count("->") == 1 and middle[0] != "->" and are_names([word for word in middle if word != "->"])


def is_edge(words):
    """Whether the words are those of a line that tells an edge."""
    if words[0] != "edge" or len(words) != 4:
        return False
    return is_number(words[1]) and is_name(words[2]) and is_number(words[3])


def edge_of(words):
    """The edge that a line tells."""
    return int(words[1]), words[2], int(words[3])


def is_state_line(words):
    """Whether the words are those of a line that tells a state."""
    if words[0] != "state" or len(words) < 2 or not is_name(words[1]):
        return False
    return words[2:] in ([], ["first"], ["last"], ["first", "last"])


def is_step_line(words):
    """Whether the words are those of a line that tells a step."""
    return words[0] == "step" and len(words) == 3 and is_name(words[1]) and is_number(words[2])
