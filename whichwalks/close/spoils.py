"""Cuts of a word that leave a word which a question has not."""
from whichwalks.ask.machines import targets_of
from whichwalks.cut.cuts import is_cut


def spoiling_cuts(question, condition, word):
    """The tuple of one or more cuts of a word of the question that leave a word which it has not, or None.

    They are cuts by the condition that are apart. Edge cuts are asked for only where no label can loop, so no cut is a
    double edge.
    """
    reached = points_of(question, condition, word)
    for state, is_left in reached[-1]:
        if state not in question.machine[3]:
            return cuts_back(condition, reached, (state, is_left))
    return None


def points_of(question, condition, word):
    """For each place of the word the dict of its points, with the places and points ahead of them.

    A point is a pair (state, is_left): the state to which what is left so far leads, None if the question lacks that,
    and whether it has an edge. It comes from the point ahead by an edge that is left, or is met again behind a cut.
    """
    targets = targets_of(question.machine)
    reached = [{(question.firsts[word[0]], False): None}]
    # If a cut begins at one of several places with the same point, one can begin at the first one of them.
    met = {sign_at(condition, word, 0): {point: 0 for point in reached[0]}}
    for place in range(1, len(word) // 2 + 1):
        here = {}
        for state, is_left in reached[-1]:
            target = targets.get((state, word[2 * place - 1], word[2 * place]))
            here[target, True] = (place - 1, (state, is_left), False)
        known = met.setdefault(sign_at(condition, word, place), {})
        for point, begin in known.items():
            first, second = cut_between(condition, begin, place)
            if is_cut(question.schema, word, condition, first, second):
                here[point] = (begin, point, True)
        for point in here:
            known.setdefault(point, place)
        reached.append(here)
    return reached


def sign_at(condition, word, place):
    """What is the same at two places between which a cut takes away, beside the state: for "edges" the edge ahead."""
    return word[max(0, 2 * place - 2):2 * place] if condition == "edges" else ()


def cut_between(condition, begin, end):
    """The cut that takes away what stands between two places."""
    return (begin - 1, end - 1) if condition == "edges" else (begin, end)


def cuts_back(condition, reached, point):
    """The tuple of the cuts that lead to a point of the last place."""
    cuts = []
    place = len(reached) - 1
    while place > 0:
        begin, ahead, is_cut_here = reached[place][point]
        if is_cut_here:
            cuts.append(cut_between(condition, begin, place))
        place, point = begin, ahead
    return tuple(cuts[::-1])
