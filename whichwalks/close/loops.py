"""Labels that must not loop, so that readings agree."""
from whichwalks.ask.questions import check_question
from whichwalks.base.names import is_set
from whichwalks.cut.readings import do_agree
from whichwalks.errors import InvalidOperation
from whichwalks.graph.ways import check_reading


def is_enough(question, labels, reading, other):
    """Whether both readings agree for the same words if these labels cannot loop."""
    check_question(question)
    loops = question.schema.loops
    if not is_set(labels) or not all([label in loops for label in labels]):
        raise InvalidOperation("this is no set of labels that can loop")
    check_reading(reading)
    check_reading(other)
    return does_suffice(question, labels, reading, other)


def least_enough(question, reading, other):
    """The ascending tuple of all sets that are enough and contain no other one that is."""
    check_asked(question, reading, other)
    loops = question.schema.loops
    # A set that is enough stays so with more labels, so there is none if all labels are not enough.
    if not does_suffice(question, loops, reading, other):
        return ()
    found = []
    for labels in sorted(sets_of(loops), key=len):
        if not any([is_part(least, labels) for least in found]) and does_suffice(question, labels, reading, other):
            found.append(labels)
    return tuple(sorted(found))


def greatest_short(question, reading, other):
    """The ascending tuple of all sets that are not enough and are contained in no other one that is not."""
    check_asked(question, reading, other)
    found = []
    for labels in sorted(sets_of(question.schema.loops), key=len, reverse=True):
        if not any([is_part(labels, most) for most in found]) and not does_suffice(question, labels, reading, other):
            found.append(labels)
    return tuple(sorted(found))


def check_asked(question, reading, other):
    """Raise an error unless these are a question and two readings."""
    check_question(question)
    check_reading(reading)
    check_reading(other)


def does_suffice(question, labels, reading, other):
    """Whether both readings agree for the same words over the schema in which these labels cannot loop."""
    schema = question.schema
    loops = tuple([label for label in schema.loops if label not in labels])
    return do_agree(question.over(schema.with_loops(loops)), reading, other)


def sets_of(labels):
    """The list of all sets of some of the labels."""
    found = [()]
    for label in labels:
        found = found + [told + (label,) for told in found]
    return found


def is_part(one, other):
    """Whether each label of the one set is in the other one."""
    return all([label in other for label in one])
