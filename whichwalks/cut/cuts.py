"""Cuts of words, by the conditions that ask for them."""
from whichwalks.base.names import is_integer
from whichwalks.base.words import check_word
from whichwalks.errors import InvalidOperation, TooMany, UnknownName

CONDITIONS = ("edges", "nodes", "rings")
MAX_CUT = 12


def cuts(schema, word, condition):
    """The ascending tuple of all pairs that tell cuts of the word for which the condition asks."""
    check_word(schema, word)
    check_condition(condition)
    return tuple(pairs_of(schema, word, condition))


def left(schema, word, condition, first, second):
    """The ascending tuple of the words that a cut leaves."""
    check_word(schema, word)
    check_condition(condition)
    if not is_cut(schema, word, condition, first, second):
        raise InvalidOperation("there is no such cut of the word")
    return words_left(word, condition, first, second)


def reducts(schema, word, conditions):
    """The ascending tuple of the word and all words that come of it by cuts for which the conditions ask."""
    check_word(schema, word)
    check_conditions(conditions)
    if len(word) // 2 > MAX_CUT:
        raise TooMany(MAX_CUT)
    seen = {word: True}
    todo = [word]
    while todo:
        longer = todo.pop()
        for condition in conditions:
            for first, second in pairs_of(schema, longer, condition):
                words = words_left(longer, condition, first, second)
                # A double edge leaves two words, and is no cut here.
                if len(words) == 1 and words[0] not in seen:
                    seen[words[0]] = True
                    todo.append(words[0])
    return tuple(sorted(list(seen)))


def pairs_of(schema, word, condition):
    """The ascending list of all pairs that tell cuts of the word for which the condition asks."""
    edges = len(word) // 2
    pairs = [(0, edges)]
    if condition != "rings":
        pairs = [(first, second) for first in range(edges) for second in range(first + 1, edges + 1)]
    return [(first, second) for first, second in pairs if is_cut(schema, word, condition, first, second)]


def is_cut(schema, word, condition, first, second):
    """Whether the values tell a cut of the word for which the condition asks."""
    edges = len(word) // 2
    if not is_integer(first) or not is_integer(second) or not 0 <= first < second <= edges:
        return False
    if condition == "edges":
        return second < edges and is_edge_cut(schema, word, first, second)
    is_whole = first == 0 and second == edges
    return is_whole == (condition == "rings") and is_ring_between(schema, word, first, second)


def is_edge_cut(schema, word, first, second):
    """Whether both edges are one, with others between them, or a double edge."""
    if word[2 * first:2 * first + 3] != word[2 * second:2 * second + 3]:
        return False
    # One edge twice, without others between, leads from a kind to the same kind.
    return second - first > 1 or word[2 * first + 1] in schema.loops


def is_ring_between(schema, word, first, second):
    """Whether the part of the word between two places is a ring."""
    if word[2 * first] != word[2 * second]:
        return False
    return second - first > 1 or word[2 * first + 1] in schema.loops


def words_left(word, condition, first, second):
    """The ascending tuple of the words that a cut leaves: one, or two for a double edge."""
    if condition != "edges":
        return (word[:2 * first] + word[2 * second:],)
    # Both edges are one, so it does not matter that the label of the first one and the end of the second one are kept.
    once = word[:2 * first + 2] + word[2 * second + 2:]
    if second - first > 1:
        return (once,)
    return tuple(sorted([once, word[:2 * first] + word[2 * second + 2:]]))


def check_condition(value):
    """Raise UnknownName unless the value is a condition."""
    if value not in CONDITIONS:
        raise UnknownName(value)


def check_conditions(value):
    """Raise InvalidOperation unless the value is an ascending tuple of conditions."""
    if not are_conditions(value):
        raise InvalidOperation("this is no ascending tuple of conditions")


def are_conditions(value):
    """Whether the value is an ascending tuple of conditions."""
    if not isinstance(value, tuple) or not all([condition in CONDITIONS for condition in value]):
        return False
    return all([one < other for one, other in zip(value, value[1:])])
