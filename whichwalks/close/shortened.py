"""Nets of the words that cuts of the words of a question leave."""
from whichwalks.ask.nets import kind_net, or_net
from whichwalks.close.fillings import BEGINNING, Along, fillings_of, shortest_ring


def shortened_net(question, condition):
    """The net with the words of the question, and those that one or more cuts of them by the condition leave."""
    if condition == "rings":
        return with_whole_cuts(question)
    kinds, firsts, steps, lasts = question.machine
    fillings = fillings_of(question, condition)
    longer = [
        (state, label, end)
        for state, label, target in steps
        for end in ends_of(fillings, (kinds[state], label), target)
    ]
    # Words begin in states of their own. So one that is cut at its beginning has at least one edge more.
    begins = {state: len(kinds) + at for at, state in enumerate(firsts)}
    begun = [
        (begins[state], label, end)
        for state in firsts
        for other in ends_of(fillings, BEGINNING, state)
        for source, label, end in longer
        if source == other
    ]
    ended = [begins[state] for state in firsts if state in lasts]
    kinds = kinds + tuple([kinds[state] for state in firsts])
    return kinds, tuple(list(begins.values())), tuple(longer + begun), lasts + tuple(ended)


def ends_of(fillings, sign, state):
    """The list of the state and those to which its fillings lead."""
    return [state] + [end for end in fillings.get((sign, state), {}) if end != state]


def with_whole_cuts(question):
    """The net with the words of the question, and the empty words of the kinds of its rings."""
    net = question.machine
    for kind in question.firsts:
        if shortest_ring(question, Along((kind,))) is not None:
            net = or_net(net, kind_net(kind))
    return net
