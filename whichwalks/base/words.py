"""Words: kinds and labels in turn, each label fitting between its kinds."""
from whichwalks.base.names import is_integer
from whichwalks.base.schemas import check_schema
from whichwalks.errors import InvalidNumber, InvalidOperation, InvalidWord, TooMany

MAX_WORDS = 20000
MAX_SIZE = 6


def is_word(schema, value):
    """Whether the value is a word of the schema."""
    check_schema(schema)
    if not isinstance(value, tuple) or len(value) % 2 == 0 or value[0] not in schema.kinds:
        return False
    return all([schema.fits(one, label, other) for one, label, other in edges_in(value)])


def is_ring(schema, word):
    """Whether the word leads back to its first kind, and not by just one edge that can't loop."""
    check_word(schema, word)
    edges = len(edges_in(word))
    return word[0] == word[-1] and (edges > 1 or (edges == 1 and word[1] in schema.loops))


def edges_of(schema, word):
    """The tuple of the triples (kind, label, kind) of the edges of the word."""
    check_word(schema, word)
    return tuple(edges_in(word))


def joined(schema, one, other):
    """The one word with the other one behind it; the kind between them is taken once."""
    check_word(schema, one)
    check_word(schema, other)
    if one[-1] != other[0]:
        raise InvalidOperation("the second word does not begin where the first one ends")
    return one + other[1:]


def turned(schema, word):
    """The word from its end to its beginning."""
    check_word(schema, word)
    return word[::-1]


def part(schema, word, first, last):
    """The word between two places of the word."""
    check_word(schema, word)
    places = len(edges_in(word)) + 1
    check_place(first, 0, places)
    check_place(last, first, places)
    return word[2 * first:2 * last + 1]


def words_of(schema, size):
    """The ascending tuple of all words with so many edges."""
    check_schema(schema)
    if not is_integer(size) or not 0 <= size <= MAX_SIZE:
        raise InvalidNumber(size)
    counts = counts_up_to(schema, size)
    if sum(list(counts[size].values())) > MAX_WORDS:
        raise TooMany(MAX_WORDS)
    behind = steps_behind(schema)
    words = [(kind,) for kind in schema.kinds]
    for rest in reversed(range(size)):
        # Beginnings that lead to no word of this size are left out at once, so there are never more than at the end.
        words = [
            word + (label, kind)
            for word in words
            for label, kind in behind[word[-1]]
            if counts[rest][kind] > 0
        ]
    return tuple(words)


def check_word(schema, word):
    """Raise an error unless these are a schema and a word of it."""
    if not is_word(schema, word):
        raise InvalidWord("this is no word of the schema")


def check_place(value, lowest, places):
    """Raise InvalidNumber unless the value is one of so many places, and not ahead of the lowest one."""
    if not is_integer(value) or not lowest <= value < places:
        raise InvalidNumber(value)


def edges_in(word):
    """The list of the triples of the edges of a tuple that has the length of a word."""
    return [word[at:at + 3] for at in range(0, len(word) - 2, 2)]


def counts_up_to(schema, size):
    """For each number of edges up to the size a dict: how many words begin with each kind."""
    counts = [{kind: 1 for kind in schema.kinds}]
    for _ in range(size):
        shorter = counts[-1]
        longer = {kind: 0 for kind in schema.kinds}
        for kind, _, target in schema.steps():
            longer[kind] += shorter[target]
        counts.append(longer)
    return counts


def steps_behind(schema):
    """A dict from the kinds to the ascending lists of the pairs (label, kind) that fit behind them."""
    behind = {kind: [] for kind in schema.kinds}
    for one, label, other in schema.steps():
        behind[one].append((label, other))
    return behind
