"""What conditions demand of the states of a question.

A row is a pair (q, others) of a state and an ascending tuple of states of its kind: each word that leads from q to a
last state is to lead from one of the others to one, too. It is idle if q is one of the others. Beside the rows of
tables there are such without others here, for steps that only q has. A demand is a tuple (word, first, second, row):
a word that leads to q, and a cut of it that leaves words which lead to the others. No demand has an idle row.
"""
from whichwalks.ask.machines import steps_ahead, targets_of


def words_from(machine, begins, least):
    """The dict from states to shortest words with at least so many edges that lead to them from one of the begins."""
    ahead = steps_ahead(machine)
    todo = [(state, (machine[0][state],)) for state in begins]
    seen = {}
    found = {}
    at = 0
    while at < len(todo):
        state, word = todo[at]
        at += 1
        place = (state, min(len(word) // 2, least))
        if place in seen:
            continue
        seen[place] = True
        if place[1] == least:
            found[state] = word
        todo.extend([(target, word + (label, kind)) for label, kind, target in ahead[state]])
    return found


def rings_from(schema, machine, state):
    """The dict from states to shortest rings that lead to them from the state."""
    kinds, _, steps, _ = machine
    words = words_from(machine, (state,), 2)
    rings = {end: words[end] for end in words if kinds[end] == kinds[state]}
    for source, label, target in steps:
        if source == state and kinds[target] == kinds[state] and label in schema.loops:
            rings[target] = (kinds[state], label, kinds[state])
    return rings


def node_demands(schema, machine, is_wide):
    """The demands of the condition "nodes".

    If it is wide, also those that follow from others, with a cut at the beginning of a word: theirs can be shorter.
    """
    ahead, targets = steps_ahead(machine), targets_of(machine)
    met = words_from(machine, machine[1], 1)
    demands = []
    for one in range(len(machine[0])):
        for state, ring in rings_from(schema, machine, one).items():
            row = (state, (one,))
            if one in met and not is_idle(row):
                word = met[one] + ring[1:]
                demands.append((word, len(met[one]) // 2, len(word) // 2, row))
            # A cut at the beginning is whole if the word does not go on, so the row itself is not demanded.
            if one in machine[1] and (is_wide or one not in met):
                for sign, behind in rows_behind(ahead, targets, row):
                    if not is_idle(behind):
                        demands.append((ring + sign, 0, len(ring) // 2, behind))
    return demands


def edge_demands(schema, machine):
    """The demands of the condition "edges"."""
    kinds, firsts, steps, _ = machine
    met = words_from(machine, firsts, 0)
    between = [words_from(machine, (state,), 1) for state in range(len(kinds))]
    alike = {}
    for state, label, target in steps:
        alike.setdefault((kinds[state], label, kinds[target]), []).append((state, target))
    demands = []
    for (kind, label, other), ends in alike.items():
        for state, one in ends:
            begin = met[state] + (label,)
            first = len(begin) // 2 - 1
            for source, target in ends:
                row = (target, (one,))
                if source in between[one] and not is_idle(row):
                    word = begin + between[one][source] + (label, other)
                    demands.append((word, first, len(word) // 2 - 1, row))
                row = (target, tuple(sorted([state, one])))
                if source == one and label in schema.loops and not is_idle(row):
                    demands.append((begin + (kind, label, kind), first, first + 1, row))
    return demands


def ring_demands(schema, machine):
    """The demands of the condition "rings", which are none but those that fail."""
    kinds, firsts, _, lasts = machine
    demands = []
    for one in firsts:
        for state, ring in rings_from(schema, machine, one).items():
            if state in lasts and one not in lasts:
                demands.append((ring, 0, len(ring) // 2, (state, (one,))))
    return demands


def is_idle(row):
    """Whether the state of the row is one of its others."""
    return row[0] in row[1]


def is_refuted(lasts, row):
    """Whether the state of the row is last, but none of the others is."""
    return row[0] in lasts and not any([state in lasts for state in row[1]])


def rows_behind(ahead, targets, row):
    """For each step of the state of the row its sign (label, kind), and the row behind it."""
    found = []
    for label, kind, target in ahead[row[0]]:
        others = [targets[state, label, kind] for state in row[1] if (state, label, kind) in targets]
        found.append(((label, kind), (target, tuple(sorted(set(others))))))
    return found


def closed_rows(machine, rows):
    """The dict of the rows, and of all rows behind them, that are not idle; None if one of them fails."""
    ahead, targets = steps_ahead(machine), targets_of(machine)
    todo = list(rows)
    closed = {}
    while todo:
        row = todo.pop()
        if is_refuted(machine[3], row):
            return None
        if row not in closed and not is_idle(row):
            closed[row] = True
            todo.extend([behind for _, behind in rows_behind(ahead, targets, row)])
    return closed


def shortest_failure(machine, demands):
    """A demand with a word with the fewest edges that refutes its row, or None."""
    ahead, targets = steps_ahead(machine), targets_of(machine)
    waiting = {}
    for word, first, second, row in demands:
        waiting.setdefault(len(word), []).append((word, first, second, row))
    seen = {}
    while waiting:
        fewest = min(list(waiting))
        todo = waiting.pop(fewest)
        for word, first, second, row in todo:
            if row in seen or is_idle(row):
                continue
            seen[row] = True
            if is_refuted(machine[3], row):
                return word, first, second
            for sign, behind in rows_behind(ahead, targets, row):
                waiting.setdefault(fewest + 2, []).append((word + sign, first, second, behind))
    return None
