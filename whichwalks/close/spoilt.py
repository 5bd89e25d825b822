"""Nets of words of which cuts leave other words than a machine has.

The states of such a net are points to which words lead. A point is a tuple (kind, state, cut, is_left): the kind at
which the word is; the state to which what is left of it leads, None if the machine lacks that; what is told of a cut,
None if none has begun; whether an edge is left.
"""
from whichwalks.ask.machines import firsts_of, targets_of
from whichwalks.ask.nets import or_net, pair_net
from whichwalks.base.words import steps_behind

# What is told of a cut that is at its end, where there is only one.
ENDED = ()


class Known:
    """A machine over a schema, with its first states by their kinds, and its targets."""

    def __init__(self, schema, machine):
        self.base = schema
        self.told = machine
        self.begins = firsts_of(machine)
        self.moves = targets_of(machine)


def every_net(schema):
    """The net with all words of the schema."""
    states = tuple(range(len(schema.kinds)))
    numbers = {kind: state for state, kind in enumerate(schema.kinds)}
    steps = [(numbers[one], label, numbers[other]) for one, label, other in schema.steps()]
    return schema.kinds, states, tuple(steps), states


def lacking_net(schema, machine):
    """The net with all words of the schema that the machine has not."""
    return pair_net(every_net(schema), machine, True)


def spoilt_net(schema, machine, conditions):
    """The net with all words that the machine has not, and all of which cuts by one of the conditions leave such.

    It asks for no edge cuts if "nodes" is there, whose cuts leave the same words.
    """
    known = Known(schema, machine)
    net = lacking_net(schema, machine)
    if "nodes" in conditions or "rings" in conditions:
        net = or_net(net, explored(known, ring_points, None, conditions))
    if "edges" in conditions and "nodes" not in conditions:
        net = or_net(net, explored(known, edge_points, None, ("nodes",)))
    return net


def once_spoilt_net(schema, machine, conditions):
    """The net with all words of which one cut by one of the conditions leaves a word that the machine has not."""
    known = Known(schema, machine)
    net = explored(known, ring_points_once, ENDED, conditions)
    if "edges" in conditions and "nodes" not in conditions:
        net = or_net(net, explored(known, edge_points_once, ENDED, ("nodes",)))
    return net


def explored(known, points_behind, ended, conditions):
    """The net of all points to which words of the schema lead.

    The last ones are those at which no cut is not at its end, and what is left is none of the words of the machine,
    and was left by a cut for which the conditions ask.
    """
    ahead = steps_behind(known.base)
    points = [(kind, known.begins.get(kind), None, False) for kind in known.base.kinds]
    numbers = {point: at for at, point in enumerate(points)}
    firsts = tuple(range(len(points)))
    steps = []
    at = 0
    while at < len(points):
        here = points[at]
        for label, kind in ahead[here[0]]:
            for point in points_behind(known, here, label, kind):
                if point not in numbers:
                    numbers[point] = len(points)
                    points.append(point)
                steps.append((at, label, numbers[point]))
        at += 1
    lasts = [
        at
        for at, (_, state, cut, is_left) in enumerate(points)
        if cut == ended and state not in known.told[3] and ("nodes" if is_left else "rings") in conditions
    ]
    return tuple([point[0] for point in points]), firsts, tuple(steps), tuple(lasts)


def ring_points(known, point, label, kind):
    """The points behind an edge, which is left or cut away with a ring. Of that is told whether it can end a ring."""
    _, state, cut, is_left = point
    found = []
    if cut is None:
        found.append((kind, known.moves.get((state, label, kind)), None, True))
    # What is left already leads to no state: nothing more needs to be cut.
    if state is not None:
        is_back = kind == known.told[0][state]
        can_end = cut is not None or (is_back and label in known.base.loops)
        found.append((kind, state, can_end, is_left))
        if can_end and is_back:
            found.append((kind, state, None, is_left))
    return found


def ring_points_once(known, point, label, kind):
    """The same with one ring. Of that is told the kind at which it begins, too."""
    here, state, cut, is_left = point
    found = []
    if cut is None or cut == ENDED:
        found.append((kind, known.moves.get((state, label, kind)), cut, True))
    if cut != ENDED:
        home, can_end = (here, kind == here and label in known.base.loops) if cut is None else (cut[0], True)
        found.append((kind, state, (home, can_end), is_left))
        if can_end and kind == home:
            found.append((kind, state, ENDED, is_left))
    return found


def edge_points(known, point, label, kind):
    """The points behind an edge, which is left or cut away.

    Of a cut is told which edge it has, as its first kind and label, and whether an edge stands between.
    """
    here, state, cut, _ = point
    if cut is None:
        target = known.moves.get((state, label, kind))
        found = [(kind, target, None, True)]
        if target is not None:
            found.append((kind, target, (here, label, False), True))
        return found
    found = [(kind, state, cut[:2] + (True,), True)]
    if cut == (here, label, True) and kind == known.told[0][state]:
        found.append((kind, state, None, True))
    return found


def edge_points_once(known, point, label, kind):
    """The same with one cut. Of that is told the second kind of its edge, too."""
    here, state, cut, _ = point
    if cut is None or cut == ENDED:
        target = known.moves.get((state, label, kind))
        found = [(kind, target, cut, True)]
        if cut is None:
            found.append((kind, target, (here, label, kind, False), True))
        return found
    found = [(kind, state, cut[:3] + (True,), True)]
    if cut == (here, label, kind, True):
        found.append((kind, state, ENDED, True))
    return found
