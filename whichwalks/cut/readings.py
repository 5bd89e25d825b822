"""Readings that agree for a question, and the papers that show whether they do."""
from whichwalks.ask.questions import check_question
from whichwalks.cut.conditions import is_met, is_paper, paper
from whichwalks.cut.cuts import CONDITIONS
from whichwalks.graph.ways import READINGS, check_reading


def between(one, other):
    """The tuple of the conditions that stand between two readings."""
    check_reading(one)
    check_reading(other)
    # Each condition stands behind the reading with the same index.
    first, second = sorted([READINGS.index(one), READINGS.index(other)])
    return CONDITIONS[first:second]


def do_agree(question, one, other):
    """Whether two readings agree for the question."""
    check_question(question)
    return all([is_met(question, condition) for condition in between(one, other)])


def profile(question):
    """The tuple of the conditions that the question meets."""
    check_question(question)
    return tuple([condition for condition in CONDITIONS if is_met(question, condition)])


def widest(question, reading):
    """The first one of the readings that agree with this one for the question."""
    check_question(question)
    check_reading(reading)
    at = READINGS.index(reading)
    while at > 0 and is_met(question, CONDITIONS[at - 1]):
        at -= 1
    return READINGS[at]


def agreement(question, one, other):
    """A paper that two readings agree for the question, or that they do not."""
    check_question(question)
    papers = ()
    for condition in between(one, other):
        told = paper(question, condition)
        if told[0] == "fails":
            return "part", condition, told
        papers = papers + (told,)
    return "agree", papers


def is_agreement(question, one, other, value):
    """Whether the value is such a paper."""
    check_question(question)
    conditions = between(one, other)
    if not isinstance(value, tuple) or len(value) not in (2, 3):
        return False
    if len(value) == 3:
        return value[0] == "part" and value[1] in conditions and has_form(question, value[1], "fails", value[2])
    papers = value[1]
    if value[0] != "agree" or not isinstance(papers, tuple) or len(papers) != len(conditions):
        return False
    return all([has_form(question, condition, "holds", told) for condition, told in zip(conditions, papers)])


def has_form(question, condition, form, value):
    """Whether the value is a paper of this form for the condition."""
    return is_paper(question, condition, value) and value[0] == form
