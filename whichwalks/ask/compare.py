"""Whether one question is within another one, and the papers that show it."""
from whichwalks.ask.machines import steps_ahead
from whichwalks.ask.questions import check_question, does_ascend, is_state
from whichwalks.base.schemas import check_same_schema


def is_within(one, other):
    """Whether each word of the first question is one of the second one."""
    check_questions(one, other)
    return told_paper(one, other)[0] == "within"


def within_paper(one, other):
    """A paper that the first question is within the second one, or that it is not."""
    check_questions(one, other)
    return told_paper(one, other)


def is_within_paper(one, other, value):
    """Whether the value is such a paper."""
    check_questions(one, other)
    if not isinstance(value, tuple) or len(value) != 2:
        return False
    if value[0] == "within":
        return is_table(one, other, value[1])
    if value[0] == "word":
        return value[1] in one and value[1] not in other
    return False


def check_questions(one, other):
    """Raise an error unless these are two questions over equal schemas."""
    check_question(one)
    check_question(other)
    check_same_schema(one.schema, other.schema)


def told_paper(one, other):
    """The paper with the pairs of states to which one and the same word leads, or with a shortest word."""
    ahead = steps_ahead(one.machine)
    seconds = other.firsts
    todo = [(state, seconds.get(kind), (kind,)) for kind, state in one.firsts.items()]
    seen = {}
    at = 0
    while at < len(todo):
        state, second, word = todo[at]
        at += 1
        if (state, second) in seen:
            continue
        seen[state, second] = True
        if state in one.machine[3] and second not in other.machine[3]:
            return "word", word
        for label, kind, target in ahead[state]:
            # None stands for the state that the second question lacks: each word from there on is a word too many.
            behind = None if second is None else other.target(second, label, kind)
            todo.append((target, behind, word + (label, kind)))
    return "within", tuple(sorted(list(seen)))


def is_table(one, other, value):
    """Whether the value is the table of a paper that the first question is within the second one."""
    if not isinstance(value, tuple) or not all([is_pair(one, other, pair) for pair in value]):
        return False
    if not does_ascend(value):
        return False
    pairs = {pair: True for pair in value}
    seconds = other.firsts
    if not all([(state, seconds.get(kind)) in pairs for kind, state in one.firsts.items()]):
        return False
    ahead = steps_ahead(one.machine)
    return all([is_closed(ahead[state], one, other, (state, second), pairs) for state, second in value])


def is_pair(one, other, value):
    """Whether the value is a pair of a state of the first question and one of the second one."""
    if not isinstance(value, tuple) or len(value) != 2:
        return False
    return is_state(one.machine[0], value[0]) and is_state(other.machine[0], value[1])


def is_closed(steps, one, other, pair, pairs):
    """Whether the second state does all that the first one does, and the pairs behind are among the pairs."""
    state, second = pair
    if state in one.machine[3] and second not in other.machine[3]:
        return False
    return all([(target, other.target(second, label, kind)) in pairs for label, kind, target in steps])
