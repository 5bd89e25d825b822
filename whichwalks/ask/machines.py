"""What is asked of a machine (kinds, firsts, steps, lasts) again and again."""


def steps_ahead(machine):
    """For each state of the machine the ascending list of its triples (label, kind, target)."""
    kinds, _, steps, _ = machine
    ahead = {}
    for state in range(len(kinds)):
        ahead[state] = ()
    for state, label, target in steps:
        ahead[state] = ahead[state] + ((label, kinds[target], target),)
    return [sorted(ahead[state]) for state in range(len(kinds))]


def targets_of(machine):
    """The dict from the triples (state, label, kind) of the steps of the machine to their targets."""
    kinds, _, steps, _ = machine
    targets = {}
    for state, label, target in steps:
        targets[state, label, kinds[target]] = target
    return targets


def firsts_of(machine):
    """The dict from the kinds to the first states of the machine."""
    kinds, firsts, _, _ = machine
    return {kind: state for kind, state in sorted([(kinds[state], state) for state in firsts])}


def counts_to_lasts(machine, size):
    """For each number of edges up to the size: how many words lead from each state to a last one."""
    kinds, _, steps, lasts = machine
    counts = [[int(state in lasts) for state in range(len(kinds))]]
    for _ in range(size):
        longer = [0 for _ in kinds]
        for state, _, target in steps:
            longer[state] = longer[state] + counts[-1][target]
        counts.append(longer)
    return counts


def fewest_to_lasts(machine):
    """For each state from which a word leads to a last one the fewest edges of such a word."""
    _, _, steps, lasts = machine
    fewest = {}
    edges = 0
    met = list(lasts)
    while met:
        for state in met:
            fewest[state] = edges
        edges += 1
        met = [state for state, _, target in steps if state not in fewest and target in fewest]
    return fewest


def shortest_word(machine):
    """The first one in Python's order of the words with the fewest edges, or None."""
    kinds, firsts, _, _ = machine
    if not firsts:
        return None
    fewest, ahead = fewest_to_lasts(machine), steps_ahead(machine)
    # The first states ascend by their kinds, so the first one with the fewest edges has the first kind of these.
    state = sorted([(fewest[state], state) for state in firsts])[0][1]
    word = (kinds[state],)
    while fewest[state] > 0:
        label, kind, target = [step for step in ahead[state] if fewest[step[2]] == fewest[state] - 1][0]
        word = word + (label, kind)
        state = target
    return word


def words_of_size(machine, size):
    """The ascending list of the words with just so many edges."""
    kinds, firsts, _, _ = machine
    counts, ahead = counts_to_lasts(machine, size), steps_ahead(machine)
    told = [((kinds[state],), state) for state in firsts if counts[size][state] > 0]
    for rest in reversed(range(size)):
        # Beginnings that lead to no word of this size are left out at once, so there are never more than at the end.
        told = [
            (word + (label, kind), target)
            for word, state in told
            for label, kind, target in ahead[state]
            if counts[rest][target] > 0
        ]
    return [word for word, _ in told]
