"""Whether the pairs of a question by a reading are always pairs of another question by another reading."""
from whichwalks.ask.compare import is_table, is_within, told_paper
from whichwalks.ask.questions import check_question
from whichwalks.base.schemas import check_same_schema
from whichwalks.close.closures import check_loops, do_cut, needed, wider
from whichwalks.close.fillings import Beyond, shortest_filled
from whichwalks.cut.drawings import word_left_by
from whichwalks.cut.readings import between
from whichwalks.errors import TooMany
from whichwalks.graph.ways import READINGS, check_reading


def is_covered(one, reading, other, by):
    """Whether each pair of the first question by its reading is one of the second one by the other reading."""
    check_covers(one, reading, other, by)
    return is_within(wider(one, conditions_of(reading, by)), other)


def cover_paper(one, reading, other, by):
    """A paper that this is so, or that it is not."""
    check_covers(one, reading, other, by)
    conditions = conditions_of(reading, by)
    # This comes first because it raises TooMany also where some word is beyond.
    paper = told_paper(wider(one, conditions), other)
    return paper if paper[0] == "within" else ("beyond",) + shortest_beyond(one, conditions, other)


def is_cover_paper(one, reading, other, by, value):
    """Whether the value is such a paper."""
    check_covers(one, reading, other, by)
    conditions = conditions_of(reading, by)
    if not isinstance(value, tuple) or len(value) not in (2, 4):
        return False
    if len(value) == 2:
        return value[0] == "within" and is_table_within(one, conditions, other, value[1])
    _, word, condition, cuts = value
    if value[0] != "beyond" or word not in one:
        return False
    if condition is None:
        return cuts == () and word not in other
    return do_cut(one.schema, conditions, word, condition, cuts) and word_left_by(word, condition, cuts) not in other


def check_covers(one, reading, other, by):
    """Raise an error unless these are a question with a reading, and another one with one, that can be compared."""
    check_question(one)
    check_reading(reading)
    check_question(other)
    check_reading(by)
    check_same_schema(one.schema, other.schema)
    check_loops(one.schema, conditions_of(reading, by))


def conditions_of(reading, by):
    """The conditions between both readings if the first one is the wider one, else none."""
    return between(reading, by) if READINGS.index(reading) < READINGS.index(by) else ()


def shortest_beyond(one, conditions, other):
    """A triple (word, condition, cuts) with a shortest word of the one of which cuts leave a word beyond, or None."""
    paper = told_paper(one, other)
    best = (paper[1], None, ()) if paper[0] == "word" else None
    for condition in needed(conditions):
        found = shortest_filled(one, condition, Beyond(other))
        if found is not None and (best is None or len(found[0]) < len(best[0])):
            # What is shorter than each word beyond has cuts.
            best = (found[0], condition, found[1])
    return best


def is_table_within(one, conditions, other, value):
    """Whether the value is the table of a paper that the wider question is within the other one."""
    try:
        return is_table(wider(one, conditions), other, value)
    except TooMany:
        return False
