"""The shell: lines that are commands to a store, and their answers."""
from whichwalks.ask.expressions import read
from whichwalks.ask.questions import Question
from whichwalks.base.names import is_name
from whichwalks.cut.conditions import paper
from whichwalks.cut.readings import do_agree, profile
from whichwalks.desk.store import Store
from whichwalks.errors import InvalidGraph, InvalidNumber, Missing, NothingToUndo, ParseError, TooMany, UnknownName
from whichwalks.graph.ways import check_reading
from whichwalks.text.formats import read_schema, write_graph
from whichwalks.text.values import is_number

WHAT = "what"


def add_node(store, parts):
    """Add a node."""
    return str(store.add(parts[0]))


def put_edge(store, parts):
    """Add an edge."""
    store.put(parts[0], parts[1], parts[2])
    return "done"


def drop_edge(store, parts):
    """Take an edge away."""
    store.drop(parts[0], parts[1], parts[2])
    return "done"


def keep_question(store, parts):
    """Keep the question of an expression under a name."""
    # Too many states come last, so the reading is looked at ahead of them.
    check_reading(parts[1])
    store.keep(parts[0], Question.read(store.schema, parts[2]), parts[1])
    return "done"


def forget_question(store, parts):
    """Forget a question."""
    store.forget(parts[0])
    return "done"


def undo_calls(store, parts):
    """Take back one call, or so many."""
    store.undo(many=parts[0] if parts else 1)
    return "done"


def redo_calls(store, parts):
    """Do one call again, or so many."""
    store.redo(many=parts[0] if parts else 1)
    return "done"


def tell_plan(store, parts):
    """The plan of a question."""
    return store.plan(parts[0])


def tell_pairs(store, parts):
    """The pairs of a question, a line for each."""
    return "\n".join([f"{source} {target}" for source, target in store.pairs(parts[0])])


def tell_way(store, parts):
    """A way for a question from node to node."""
    found = store.way(parts[0], parts[1], parts[2])
    return "" if found is None else line_of(found)


def tell_graph(store, parts):
    """The text of the graph."""
    return write_graph(store.graph)


def tell_names(store, parts):
    """The names of the questions with their readings, a line for each."""
    return "\n".join([f"{name} {store[name][1]}" for name in store.names])


def tell_agreement(store, parts):
    """Whether a reading and the asked one agree for a question."""
    question, reading = store[parts[0]]
    return "yes" if do_agree(question, reading, parts[1]) else "no"


def tell_profile(store, parts):
    """The conditions that a question meets."""
    return line_of(profile(store[parts[0]][0]))


def tell_paper(store, parts):
    """The paper that a question meets a condition, or that it does not."""
    found = paper(store[parts[0]][0], parts[1])
    if found[0] == "holds":
        return "holds"
    return line_of(("fails",) + found[1] + found[2:])


# What stands behind each command: "text" is what is left of the line, "many" a number or nothing.
SHAPES = {
    "add": ("name",), "put": ("number", "name", "number"), "drop": ("number", "name", "number"),
    "keep": ("name", "name", "text"), "forget": ("name",), "undo": ("many",), "redo": ("many",), "plan": ("name",),
    "pairs": ("name",), "way": ("name", "number", "number"), "graph": (), "names": (), "agree": ("name", "name"),
    "profile": ("name",), "show": ("name", "name"),
}
ACTIONS = {
    "add": add_node, "put": put_edge, "drop": drop_edge, "keep": keep_question, "forget": forget_question,
    "undo": undo_calls, "redo": redo_calls, "plan": tell_plan, "pairs": tell_pairs, "way": tell_way,
    "graph": tell_graph, "names": tell_names, "agree": tell_agreement, "profile": tell_profile, "show": tell_paper,
}


class Shell:
    """A shell over a store for the schema with a text."""

    def __init__(self, text):
        self._store = Store(read_schema(text))

    def store(self):
        """A twin of the store."""
        return self._store.twin()

    def __call__(self, line):
        return answer_to(self._store, line)

    def answer(self, line):
        """Do the command of a line, and return what there is to tell."""
        return answer_to(self._store, line)


def line_of(parts):
    """The line of the parts, with blanks between."""
    return " ".join([str(part) for part in parts])


def answer_to(store, line):
    """Do the command of a line, and return the answer, or a word for an error and what it keeps."""
    command, parts = command_of(store.schema, line)
    if command is None:
        return WHAT
    action = ACTIONS[command]
    try:
        return action(store, parts) or "none"
    except UnknownName as unknown:
        return f"unknown {unknown.name}"
    except InvalidNumber as invalid:
        return f"number {invalid.value}"
    except InvalidGraph:
        return "graph"
    except Missing as missing:
        return "missing " + line_of(missing.edge)
    except NothingToUndo as nothing:
        return f"undo {nothing.many}"
    except TooMany as beyond:
        return f"many {beyond.limit}"


def command_of(schema, line):
    """The command of a line and the list of its parts; None and none if the line is no command."""
    if not isinstance(line, str):
        return None, []
    command = line.partition(" ")[0]
    if command not in SHAPES:
        return None, []
    shape = SHAPES[command]
    # What is too much stays in the last one of the words, or in one more than none.
    words = line.split(" ", max(1, len(shape)))[1:]
    if shape == ("many",) and not words:
        return command, []
    if len(words) != len(shape) or not all([does_fit(schema, one, word) for one, word in zip(shape, words)]):
        return None, []
    return command, [int(word) if one in ("number", "many") else word for one, word in zip(shape, words)]


def does_fit(schema, one, word):
    """Whether the word can stand where there should be a name, a number, or a text of an expression."""
    if one == "name":
        return is_name(word)
    if one == "text":
        return is_text(schema, word)
    return is_number(word)


def is_text(schema, text):
    """Whether the text is one of an expression, perhaps of one with too many parts."""
    try:
        read(schema, text)
    except ParseError:
        return False
    except TooMany:
        return True
    return True
