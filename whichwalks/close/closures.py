"""The least wider and the greatest narrower question that meet conditions, and what shows their words."""
from whichwalks.ask.nets import or_net, pair_net
from whichwalks.ask.questions import MAX_STATES, check_question, question_of
from whichwalks.base.words import check_word
from whichwalks.close.fillings import Along, shortest_filled
from whichwalks.close.learned import spoilt_machine
from whichwalks.close.shortened import shortened_net
from whichwalks.close.spoils import spoiling_cuts
from whichwalks.cut.cuts import check_conditions
from whichwalks.cut.drawings import are_apart, has_double, word_left_by
from whichwalks.errors import InvalidOperation, TooMany


def wider(question, conditions):
    """The least question that has all words of the question and meets the conditions."""
    check_asked_for(question, conditions)
    check_loops(question.schema, conditions)
    net = question.machine
    for condition in needed(conditions):
        net = or_net(net, shortened_net(question, condition))
    return question_of(question.schema, net)


def narrower(question, conditions):
    """The greatest question that has only words of the question and meets the conditions."""
    check_asked_for(question, conditions)
    check_loops(question.schema, conditions)
    return question_of(question.schema, pair_net(question.machine, spoilt_words(question, conditions), True))


def widening(question, conditions, word):
    """A triple (other, condition, cuts) that shows that the word is in the wider question, or None."""
    check_asked_word(question, conditions, word)
    if word in question:
        return word, None, ()
    # Whole cuts leave words without edges, and other cuts such with edges. So no two conditions leave the word.
    for condition in needed(conditions):
        found = shortest_filled(question, condition, Along(word))
        if found is not None:
            return found[0], condition, found[1]
    return None


def narrowing(question, conditions, word):
    """A pair (condition, cuts) that shows that a word of the question is not in the narrower one, or None."""
    check_own_word(question, conditions, word)
    for condition in needed(conditions):
        cuts = spoiling_cuts(question, condition, word)
        if cuts is not None:
            return condition, cuts
    return None


def is_widening(question, conditions, word, value):
    """Whether the value is such a triple."""
    check_asked_word(question, conditions, word)
    if not isinstance(value, tuple) or len(value) != 3 or value[0] not in question:
        return False
    other, condition, cuts = value
    if condition is None:
        return other == word and cuts == ()
    return do_cut(question.schema, conditions, other, condition, cuts) and word_left_by(other, condition, cuts) == word


def is_narrowing(question, conditions, word, value):
    """Whether the value is such a pair."""
    check_own_word(question, conditions, word)
    if not isinstance(value, tuple) or len(value) != 2:
        return False
    condition, cuts = value
    if not do_cut(question.schema, conditions, word, condition, cuts):
        return False
    return word_left_by(word, condition, cuts) not in question


def check_asked_for(question, conditions):
    """Raise an error unless these are a question and an ascending tuple of conditions."""
    check_question(question)
    check_conditions(conditions)


def check_loops(schema, conditions):
    """Raise InvalidOperation if edge cuts alone do not tell what meets the conditions."""
    if "edges" in conditions and "nodes" not in conditions and schema.loops:
        raise InvalidOperation("some label can loop")


def check_asked_word(question, conditions, word):
    """Raise an error unless these are a question, conditions that can be asked for, and a word."""
    check_asked_for(question, conditions)
    check_word(question.schema, word)
    check_loops(question.schema, conditions)


def check_own_word(question, conditions, word):
    """Raise an error unless these are a question, conditions that can be asked for, and a word of the question."""
    check_asked_word(question, conditions, word)
    if word not in question:
        raise InvalidOperation("the question has not this word")


def needed(conditions):
    """The conditions without "edges" if "nodes" is there, because each edge cut leaves what a node cut leaves."""
    return [condition for condition in conditions if condition != "edges" or "nodes" not in conditions]


def spoilt_words(question, conditions):
    """The least machine of all words that are not in the narrower question; TooMany if that has too many states."""
    # Beside the states of the narrower question there is at most one of each kind, at which no word of it goes on.
    limit = MAX_STATES + len(question.schema.kinds)
    try:
        return spoilt_machine(question, needed(conditions), limit)
    except TooMany:
        raise TooMany(MAX_STATES) from None


def do_cut(schema, conditions, word, condition, cuts):
    """Whether these are one or more cuts of the word by one of the conditions that are apart, and no double edges."""
    if condition not in conditions or not are_apart(schema, word, condition, cuts):
        return False
    return len(cuts) > 0 and not has_double(condition, cuts)
