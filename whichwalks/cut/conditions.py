"""Conditions that a question can meet, and the papers that show whether it does."""
from whichwalks.ask.machines import steps_ahead, targets_of
from whichwalks.ask.questions import are_states, check_question, does_ascend, is_state
from whichwalks.cut.cuts import check_condition, is_cut, words_left
from whichwalks.cut.demands import (
    closed_rows, edge_demands, is_idle, is_refuted, node_demands, ring_demands, rows_behind, shortest_failure,
)


def is_met(question, condition):
    """Whether the question meets the condition."""
    check_asked(question, condition)
    return least_rows(question, condition) is not None


def demanded(question, condition):
    """The ascending tuple of the demanded rows that are not idle."""
    check_asked(question, condition)
    return tuple([row for row in rows_of(question, condition) if row[1]])


def least_table(question, condition):
    """The least table that has all that is demanded and no idle rows, or None."""
    check_asked(question, condition)
    return least_rows(question, condition)


def paper(question, condition):
    """The paper that the question meets the condition, or one that it does not."""
    check_asked(question, condition)
    table = least_rows(question, condition)
    if table is not None:
        return "holds", table
    word, first, second = shortest_failure(question.machine, demands_of(question, condition, True))
    return "fails", word, first, second


def is_paper(question, condition, value):
    """Whether the value is a paper that the question meets the condition, or that it does not."""
    check_asked(question, condition)
    if not isinstance(value, tuple) or len(value) not in (2, 4):
        return False
    if len(value) == 2:
        return value[0] == "holds" and is_table(question, condition, value[1])
    return value[0] == "fails" and does_fail(question, condition, value[1], value[2], value[3])


def check_asked(question, condition):
    """Raise an error unless these are a question and a condition."""
    check_question(question)
    check_condition(condition)


def demands_of(question, condition, is_wide):
    """The demands of the condition; if it is wide, also others that a failure can need."""
    if condition == "nodes":
        return node_demands(question.schema, question.machine, is_wide)
    if condition == "edges":
        return edge_demands(question.schema, question.machine)
    return ring_demands(question.schema, question.machine)


def rows_of(question, condition):
    """The ascending list of the demanded rows, with those of which no table can be."""
    if condition == "rings":
        return []
    return sorted(set([row for _, _, _, row in demands_of(question, condition, False)]))


def least_rows(question, condition):
    """The rows of the least table with all that is demanded, or None."""
    if condition == "rings":
        return None if demands_of(question, condition, False) else ()
    closed = closed_rows(question.machine, rows_of(question, condition))
    return None if closed is None else tuple(sorted(list(closed)))


def is_table(question, condition, value):
    """Whether the value is a table that shows that the question meets the condition."""
    if condition == "rings":
        return value == () and least_rows(question, condition) is not None
    machine = question.machine
    if not isinstance(value, tuple) or not all([is_row(machine[0], row) for row in value]):
        return False
    if not does_ascend(value):
        return False
    rows = {row: True for row in value}
    if not all([row in rows for row in rows_of(question, condition)]):
        return False
    ahead, targets = steps_ahead(machine), targets_of(machine)
    if any([is_refuted(machine[3], row) for row in value]):
        return False
    behind = [other for row in value for _, other in rows_behind(ahead, targets, row)]
    return all([is_idle(row) or row in rows for row in behind])


def is_row(kinds, value):
    """Whether the value is a row of a state and one or two others, if the states have these kinds."""
    if not isinstance(value, tuple) or len(value) != 2 or not is_state(kinds, value[0]):
        return False
    state, others = value
    if not isinstance(others, tuple) or not 1 <= len(others) <= 2 or not are_states(kinds, others):
        return False
    return all([kinds[other] == kinds[state] for other in others])


def does_fail(question, condition, word, first, second):
    """Whether these are a word of the question and a cut of it by the condition that leaves only other words."""
    if word not in question or not is_cut(question.schema, word, condition, first, second):
        return False
    return not any([shorter in question for shorter in words_left(word, condition, first, second)])
