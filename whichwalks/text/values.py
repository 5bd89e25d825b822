"""The text of a value: one line that tells tuples, names, integers and None."""
from whichwalks.base.names import is_integer, is_name
from whichwalks.errors import InvalidOperation, ParseError

MAX_DEPTH = 8
MAX_DIGITS = 60


def is_number(word):
    """Whether the word is an integer of at least 0, written in decimal without leading zeros."""
    if not 1 <= len(word) <= MAX_DIGITS or not all(["0" <= sign <= "9" for sign in word]):
        return False
    return word == "0" or word[0] != "0"


def words_of_value(value, depth):
    """The list of the words of the text of a value that may be nested so deep."""
    if value is None:
        return ["-"]
    if is_name(value):
        return ["=" + value]
    if is_integer(value) and value >= 0:
        return [str(value)]
    if not isinstance(value, tuple) or depth == 0:
        raise InvalidOperation("the value has no text")
    return ["("] + [word for part in value for word in words_of_value(part, depth - 1)] + [")"]


def value_of_words(words):
    """The value with a text of these words."""
    # Each tuple that is not at its end yet has a list of its parts; the first list has the value itself.
    parts = [[]]
    for word in words:
        if word == "(" and len(parts) <= MAX_DEPTH:
            parts.append([])
        elif word == ")" and len(parts) > 1:
            inner = tuple(parts.pop())
            parts[-1].append(inner)
        else:
            parts[-1].append(value_of_word(word))
    if len(parts) != 1 or len(parts[0]) != 1:
        raise ParseError(0)
    return parts[0][0]


def value_of_word(word):
    """The name, integer or None that a word tells."""
    if word == "-":
        return None
    if is_number(word):
        return int(word)
    if word[:1] != "=" or not is_name(word[1:]):
        raise ParseError(0)
    return word[1:]
