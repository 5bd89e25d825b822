"""What cuts take away, told by the states of a question.

A filling of a state is a word that begins and ends with its kind and leads from it to a state: what one cut takes away
of a word that leads to the state so far. For an edge cut this depends on the sign (kind, label) of the edge ahead of
it. A word is filled if it is made longer so at some places, at most once at each. A goal tells which words are to be
filled: it has places, of which None is none.
"""
from whichwalks.ask.machines import steps_ahead
from whichwalks.cut.demands import rings_from, words_from

# The sign at the beginning of a word, where no edge is ahead.
BEGINNING = ("", "")


class Along:
    """The goal that a word is filled. Its places are those of the word."""

    def __init__(self, word):
        self.word = word

    def first_place(self, kind):
        """The place at which words of the kind begin."""
        return 0 if kind == self.word[0] else None

    def place_behind(self, place, label, kind):
        """The place to which an edge leads."""
        return place + 1 if self.word[2 * place + 1:2 * place + 3] == (label, kind) else None

    def is_goal(self, place):
        """Whether such a word can end at the place."""
        return place == len(self.word) // 2


class Beyond:
    """The goal that any word is filled that a question has not. Its places are the states; -1 stands for none."""

    def __init__(self, question):
        self.question = question

    def first_place(self, kind):
        """The place at which words of the kind begin."""
        return self.question.firsts.get(kind, -1)

    def place_behind(self, place, label, kind):
        """The place to which an edge leads."""
        target = None if place == -1 else self.question.target(place, label, kind)
        return -1 if target is None else target

    def is_goal(self, place):
        """Whether such a word can end at the place."""
        return place not in self.question.machine[3]


def fillings_of(question, condition):
    """The dict from signs with states to the dicts of their fillings: from the states to which these lead.

    It has the signs of all steps with their targets, and the beginning with the first states; no whole fillings.
    """
    kinds, firsts, steps, _ = question.machine
    if condition == "edges":
        return edge_fillings(question.machine)
    rings = [rings_from(question.schema, question.machine, state) for state in range(len(kinds))]
    fillings = {((kinds[state], label), target): rings[target] for state, label, target in steps}
    for state in firsts:
        fillings[BEGINNING, state] = rings[state]
    return fillings


def edge_fillings(machine):
    """The fillings by "edges": words with at least one edge, and then the edge ahead once more."""
    kinds, _, steps, _ = machine
    words = [words_from(machine, (state,), 1) for state in range(len(kinds))]
    fillings = {}
    for state, label, target in steps:
        sign = (kinds[state], label)
        found = {}
        for source, name, end in steps:
            is_alike = (kinds[source], name, kinds[end]) == sign + (kinds[target],)
            if is_alike and source in words[target]:
                filling = words[target][source] + (label, kinds[end])
                if end not in found or len(found[end]) > len(filling):
                    found[end] = filling
        fillings[sign, target] = found
    return fillings


def shortest_ring(question, goal):
    """A shortest word of the question that is a ring on a kind whose empty word is the goal, or None."""
    rings = []
    for kind, state in question.firsts.items():
        place = goal.first_place(kind)
        if place is not None and goal.is_goal(place):
            found = rings_from(question.schema, question.machine, state)
            rings.extend([found[end] for end in found if end in question.machine[3]])
    return min(rings, key=len, default=None)


def shortest_filled(question, condition, goal):
    """A shortest word of the question that is filled, with the tuple of the cuts by the condition; None if none is.

    By "rings" there is one cut, else perhaps none. Words without edges are filled by "rings" only.
    """
    if condition == "rings":
        ring = shortest_ring(question, goal)
        return None if ring is None else (ring, ((0, len(ring) // 2),))
    fillings, ahead = fillings_of(question, condition), steps_ahead(question.machine)
    waiting = {}
    for kind, state in question.firsts.items():
        place = goal.first_place(kind)
        if place is not None:
            await_filled(waiting, fillings, 0, (None, BEGINNING, state), place)
    # A point is a triple (state, place, whether there is an edge that is no filling).
    seen = {}
    while waiting:
        edges = min(list(waiting))
        todo = waiting.pop(edges)
        for point, origin in todo:
            if point in seen:
                continue
            seen[point] = origin
            state, place, has_edge = point
            if has_edge and state in question.machine[3] and goal.is_goal(place):
                return told_back(question, condition, fillings, seen, point)
            for label, kind, target in ahead[state]:
                behind = goal.place_behind(place, label, kind)
                if behind is not None:
                    sign = (question.machine[0][state], label)
                    await_filled(waiting, fillings, edges + 1, (point, sign, target), behind)
    return None


def await_filled(waiting, fillings, edges, origin, place):
    """Let the points wait to which a point leads by an edge, with each filling behind it and without one."""
    point, sign, target = origin
    has_edge = point is not None
    waiting.setdefault(edges, []).append(((target, place, has_edge), origin))
    for state, filling in fillings.get((sign, target), {}).items():
        waiting.setdefault(edges + len(filling) // 2, []).append(((state, place, has_edge), origin))


def told_back(question, condition, fillings, seen, point):
    """The whole word to a point that is seen, and the tuple of its cuts."""
    path = []
    while point is not None:
        path.append(point)
        point = seen[point][0]
    kinds = question.machine[0]
    word = []
    cuts = []
    for state, place, has_edge in path[::-1]:
        _, sign, target = seen[state, place, has_edge]
        word.extend([sign[1], kinds[target]] if has_edge else [kinds[target]])
        if state != target:
            # Edge cuts are told by the numbers of the edges, which are those of the places at which they begin.
            first = len(word) // 2 - int(condition == "edges")
            filling = fillings[sign, target][state]
            cuts.append((first, first + len(filling) // 2))
            word.extend(filling[1:])
    return tuple(word), tuple(cuts)
