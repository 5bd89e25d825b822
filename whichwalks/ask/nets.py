"""Nets: machines in which a state can have several steps with the same label and kind.

A net is a tuple (kinds, firsts, steps, lasts) as a machine is, but several first states can be of one kind, and the
tuples are in any order. So nets are joined without a thought of what the parts have in common.
"""
from whichwalks.ask.machines import steps_ahead, targets_of


def kind_net(kind):
    """The net with the empty word of a kind."""
    return (kind,), (0,), (), (0,)


def label_net(schema, label):
    """The net with all words of one edge with this label."""
    sources, targets, _ = schema[label]
    kinds = sources + targets
    begins = tuple(range(len(sources)))
    ends = tuple(range(len(sources), len(kinds)))
    return kinds, begins, tuple([(one, label, other) for one in begins for other in ends]), ends


def empty_net(schema):
    """The net with the empty words of all kinds."""
    states = tuple(range(len(schema.kinds)))
    return schema.kinds, states, (), states


def moved(net, many):
    """The states of the net with higher numbers: its first ones, steps and last ones."""
    _, firsts, steps, lasts = net
    return (
        tuple([state + many for state in firsts]),
        tuple([(state + many, label, target + many) for state, label, target in steps]),
        tuple([state + many for state in lasts]),
    )


def or_net(one, other):
    """The net with the words of both."""
    firsts, steps, lasts = moved(other, len(one[0]))
    return one[0] + other[0], one[1] + firsts, one[2] + steps, one[3] + lasts


def then_net(one, other):
    """The net with words of the one joined to words of the other."""
    kinds = one[0] + other[0]
    firsts, steps, lasts = moved(other, len(one[0]))
    ended = [kinds[state] for state in one[1] if state in one[3]]
    begins = one[1] + tuple([state for state in firsts if kinds[state] in ended])
    return kinds, begins, one[2] + over_steps(kinds, one[2], one[3], firsts) + steps, lasts


def plus_net(net):
    """The net with each word joined of one or more words."""
    kinds, firsts, steps, lasts = net
    return kinds, firsts, steps + over_steps(kinds, steps, lasts, firsts), lasts


def over_steps(kinds, steps, lasts, firsts):
    """Steps that end a word and begin the next one: like those to the last states, but to first ones of their kind."""
    ends = {}
    for state in lasts:
        ends[state] = tuple([first for first in firsts if kinds[first] == kinds[state]])
    return tuple([(state, label, first) for state, label, target in steps for first in ends.get(target, ())])


def turned_net(net):
    """The net with the words from their ends to their beginnings."""
    kinds, firsts, steps, lasts = net
    return kinds, lasts, tuple([(target, label, state) for state, label, target in steps]), firsts


def pair_net(one, other, is_minus):
    """The net of two machines whose states are the pairs of states to which a word leads.

    It has the common words, or those of the first one only; then None stands for the state that the second one lacks.
    """
    seconds = {other[0][state]: state for state in other[1]}
    pairs = [(state, seconds.get(one[0][state])) for state in one[1]]
    pairs = [pair for pair in pairs if is_minus or pair[1] is not None]
    firsts = tuple(range(len(pairs)))
    numbers = {}
    for at in firsts:
        numbers[pairs[at]] = at
    ahead, targets = steps_ahead(one), targets_of(other)
    steps = []
    at = 0
    while at < len(pairs):
        state, second = pairs[at]
        for label, kind, target in ahead[state]:
            pair = (target, targets.get((second, label, kind)))
            if is_minus or pair[1] is not None:
                if pair not in numbers:
                    numbers[pair] = len(pairs)
                    pairs.append(pair)
                steps.append((at, label, numbers[pair]))
        at += 1
    lasts = [numbers[pair] for pair in pairs if pair[0] in one[3] and (pair[1] in other[3]) != is_minus]
    return tuple([one[0][state] for state, _ in pairs]), firsts, tuple(steps), tuple(lasts)


def inner_expressions(expression):
    """The inner expressions of an expression."""
    return () if expression[0] in ("kind", "label") else expression[1:]


def net_of_parts(schema, expression, inner):
    """The net of an expression, by the nets of its inner ones."""
    sort = expression[0]
    if sort == "kind":
        return kind_net(expression[1])
    if sort == "label":
        return label_net(schema, expression[1])
    if sort == "then":
        return then_net(inner[0], inner[1])
    if sort == "or":
        return or_net(inner[0], inner[1])
    if sort == "maybe":
        return or_net(inner[0], empty_net(schema))
    if sort == "plus":
        return plus_net(inner[0])
    return or_net(plus_net(inner[0]), empty_net(schema))


def net_of(schema, expression):
    """The net with the words of an expression."""
    return net_of_parts(schema, expression, [net_of(schema, part) for part in inner_expressions(expression)])


def has_net(net, word):
    """Whether the net has the word."""
    kinds, firsts, steps, lasts = net
    targets = {}
    for state, label, target in steps:
        key = (state, label, kinds[target])
        targets[key] = targets.get(key, ()) + (target,)
    states = [state for state in firsts if kinds[state] == word[0]]
    for at in range(1, len(word), 2):
        met = {}
        for state in states:
            for target in targets.get((state, word[at], word[at + 1]), ()):
                met[target] = True
        states = list(met)
    return any([state in lasts for state in states])
