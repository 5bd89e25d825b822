"""Nets of the words that cuts leave, and of those of which cuts leave other words than a question has."""
from whichwalks.ask.nets import kind_net, or_net, pair_net
from whichwalks.close.fillings import BEGINNING, Along, fillings_of, shortest_ring
from whichwalks.base.words import steps_behind


def shortened_net(question, condition):
    """The net with the words of the question, and those that one or more cuts of them by the condition leave."""
    if condition == "rings":
        return with_whole_cuts(question)
    kinds, firsts, steps, lasts = question.machine
    fillings = fillings_of(question, condition)
    longer = [
        (state, label, end)
        for state, label, target in steps
        for end in ends_of(fillings, (kinds[state], label), target)
    ]
    # Words begin in states of their own. So one that is cut at its beginning has at least one edge more.
    begins = {state: len(kinds) + at for at, state in enumerate(firsts)}
    begun = [
        (begins[state], label, end)
        for state in firsts
        for other in ends_of(fillings, BEGINNING, state)
        for source, label, end in longer
        if source == other
    ]
    ended = [begins[state] for state in firsts if state in lasts]
    kinds = kinds + tuple([kinds[state] for state in firsts])
    return kinds, tuple(list(begins.values())), tuple(longer + begun), lasts + tuple(ended)


def ends_of(fillings, sign, state):
    """The list of the state and those to which its fillings lead."""
    return [state] + [end for end in fillings.get((sign, state), {}) if end != state]


def with_whole_cuts(question):
    """The net with the words of the question, and the empty words of the kinds of its rings."""
    net = question.machine
    for kind in question.firsts:
        if shortest_ring(question, Along((kind,))) is not None:
            net = or_net(net, kind_net(kind))
    return net


def lacking_net(question):
    """The net with all words of the schema that the question has not."""
    schema = question.schema
    states = tuple(range(len(schema.kinds)))
    numbers = {kind: state for state, kind in enumerate(schema.kinds)}
    steps = [(numbers[one], label, numbers[other]) for one, label, other in schema.steps()]
    return pair_net((schema.kinds, states, tuple(steps), states), question.machine, True)


def spoilt_net(question, conditions):
    """The net with all words that the question has not, and all of which cuts by one of the conditions leave such.

    It asks for no edge cuts if "nodes" is there, whose cuts leave the same words.
    """
    net = lacking_net(question)
    if "nodes" in conditions or "rings" in conditions:
        points, steps = explored(question, ring_points)
        net = or_net(net, net_of_points(question, conditions, points, steps))
    if "edges" in conditions and "nodes" not in conditions:
        points, steps = explored(question, edge_points)
        net = or_net(net, net_of_points(question, ("nodes",), points, steps))
    return net


def explored(question, points_behind):
    """All points to which words of the schema lead, and the steps between their numbers.

    A point is a tuple (kind, state, cut, is_left): the kind at which the word is; the state to which what is left of
    it leads, None if the question lacks that; what is told of a cut that has begun, None if none has; whether an edge
    is left.
    """
    schema = question.schema
    ahead = steps_behind(schema)
    points = [(kind, question.firsts.get(kind), None, False) for kind in schema.kinds]
    numbers = {point: at for at, point in enumerate(points)}
    steps = []
    at = 0
    while at < len(points):
        here = points[at]
        for label, kind in ahead[here[0]]:
            for point in points_behind(question, here, label, kind):
                if point not in numbers:
                    numbers[point] = len(points)
                    points.append(point)
                steps.append((at, label, numbers[point]))
        at += 1
    return points, steps


def ring_points(question, point, label, kind):
    """The points behind an edge, which is left or cut away with a ring. Of that is told whether it can end a ring."""
    _, state, cut, is_left = point
    found = []
    if cut is None:
        found.append((kind, target_of(question, state, label, kind), None, True))
    # What is left already leads to no state: nothing more needs to be cut.
    if state is not None:
        is_back = kind == question.machine[0][state]
        can_end = cut is not None or (is_back and label in question.schema.loops)
        found.append((kind, state, can_end, is_left))
        if can_end and is_back:
            found.append((kind, state, None, is_left))
    return found


def edge_points(question, point, label, kind):
    """The points behind an edge, which is left or cut away.

    Of a cut is told which edge it has, as its first kind and label, and whether an edge stands between.
    """
    here, state, cut, _ = point
    if cut is None:
        target = target_of(question, state, label, kind)
        found = [(kind, target, None, True)]
        if target is not None:
            found.append((kind, target, (here, label, False), True))
        return found
    found = [(kind, state, cut[:2] + (True,), True)]
    if cut == (here, label, True) and kind == question.machine[0][state]:
        found.append((kind, state, None, True))
    return found


def target_of(question, state, label, kind):
    """The target of the step of the state, None if there is none, or no state."""
    return None if state is None else question.target(state, label, kind)


def net_of_points(question, conditions, points, steps):
    """The net of the points to which words lead, of which cuts by one of the conditions leave what is to be had."""
    lasts = [
        at
        for at, (_, state, cut, is_left) in enumerate(points)
        if cut is None and state not in question.machine[3] and ("nodes" if is_left else "rings") in conditions
    ]
    firsts = tuple(range(len(question.schema.kinds)))
    return tuple([point[0] for point in points]), firsts, tuple(steps), tuple(lasts)
