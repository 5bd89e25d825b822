"""Integers, names and sets of names."""

MAX_LETTERS = 8


def is_integer(value):
    """Whether the value is an integer of at most sixty digits, neither True nor False."""
    return isinstance(value, int) and not isinstance(value, bool) and abs(value) < 10 ** 60


def is_name(value):
    """Whether the value is a string of one to eight letters a to z."""
    if not isinstance(value, str) or not 1 <= len(value) <= MAX_LETTERS:
        return False
    # The methods of strings also take letters of other alphabets.
    return all(["a" <= letter <= "z" for letter in value])


def is_set(value):
    """Whether the value is an ascending tuple of names."""
    if not isinstance(value, tuple) or not all([is_name(name) for name in value]):
        return False
    return all([one < other for one, other in zip(value, value[1:])])
