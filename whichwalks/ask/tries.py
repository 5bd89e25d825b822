"""Nets of words that are told one by one."""
from whichwalks.errors import TooMany


def net_of_words(words, limit):
    """A net with just these words; TooMany if their least machine has more states than the limit."""
    rows, begins = trie_of(words)
    merged = {}
    numbers = {}
    # Rows stand behind those that lead to them, so all targets of a row are merged ahead of it.
    for at in reversed(range(len(rows))):
        kind, is_last, targets = rows[at]
        row = (kind, is_last, tuple(sorted([(label, merged[target]) for (label, _), target in targets.items()])))
        if row not in numbers:
            # From no two of these rows the same words lead on, so each one is a state of the least machine.
            if len(numbers) == limit:
                raise TooMany(limit)
            numbers[row] = len(numbers)
        merged[at] = numbers[row]
    kinds = tuple([kind for kind, _, _ in numbers])
    steps = [(state, label, target) for (_, _, ahead), state in numbers.items() for label, target in ahead]
    lasts = [state for (_, is_last, _), state in numbers.items() if is_last]
    return kinds, tuple([merged[at] for at in begins]), tuple(steps), tuple(lasts)


def trie_of(words):
    """The rows of a tree of the words, each with its kind, whether a word ends there, and its targets by signs.

    With them the rows of the empty words.
    """
    rows = []
    begins = {}
    for word in words:
        if word[0] not in begins:
            begins[word[0]] = len(rows)
            rows.append([word[0], False, {}])
        row = begins[word[0]]
        for at in range(1, len(word), 2):
            targets = rows[row][2]
            sign = (word[at], word[at + 1])
            if sign not in targets:
                targets[sign] = len(rows)
                rows.append([word[at + 1], False, {}])
            row = targets[sign]
        rows[row][1] = True
    return rows, list(begins.values())
