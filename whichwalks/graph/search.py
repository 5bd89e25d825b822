"""Search for ways of a graph whose words are in a question.

A place is a pair (node, state): where a way is, and how much of a word of the question it has. A partial way is a
tuple (way, state, used): the way so far, the state to which its word leads, and as the bits of an integer what it
must not meet again: nothing by "walk", its edges by "trail", its nodes by "simple" and "acyclic".
"""


def steps_of(question, graph):
    """The dict from places to the ascending lists of their steps (label, target, state of it, number of the edge)."""
    kinds = graph.kinds
    states = {kind: [] for kind in question.schema.kinds}
    for state, kind in enumerate(question.machine[0]):
        states[kind].append(state)
    steps = {}
    for number, (source, label, target) in enumerate(graph.edges):
        for state in states[kinds[source]]:
            behind = question.target(state, label, kinds[target])
            if behind is not None:
                steps.setdefault((source, state), []).append((label, target, behind, number))
    return steps


def bit_of(reading, node, edge):
    """What a way must not meet again by a reading, if it meets this node by the edge with this number."""
    if reading == "walk":
        return 0
    return 1 << (edge if reading == "trail" else node)


def beginning(question, graph, reading, node):
    """The partial way without edges at a node, or None if the question has no word of its kind."""
    state = question.firsts.get(graph.kinds[node])
    if state is None:
        return None
    # There is no edge yet that a trail must not meet again.
    used = 0 if reading == "trail" else bit_of(reading, node, 0)
    return (node,), state, used


def longer_ways(steps, reading, partial):
    """The list of the partial ways with one edge more that count by the reading."""
    way, state, used = partial
    found = []
    # By "simple" a way that is back at its first node does not go on.
    if len(way) > 1 and reading == "simple" and way[0] == way[-1]:
        return found
    for label, node, behind, edge in steps.get((way[-1], state), []):
        bit = bit_of(reading, node, edge)
        if bit & used == 0 or (reading == "simple" and node == way[0]):
            found.append((way + (label, node), behind, used | bit))
    return found


def reach_on(steps, reading, partial):
    """All places that shortest walks reach on from a partial way, without what it must not meet again.

    A dict, in the order of the numbers of edges: the place ahead and the label that leads from there, all that the
    way must not meet again then, and whether it counts by the reading.
    """
    way, state, used = partial
    reached = {(way[-1], state): (None, None, used, True)}
    todo = [(way[-1], state)]
    at = 0
    while at < len(todo):
        place = todo[at]
        _, _, met, counts = reached[place]
        at += 1
        if reading == "simple" and place[0] == way[0] and (at > 1 or len(way) > 1):
            continue
        for label, node, behind, edge in steps.get(place, []):
            bit = bit_of(reading, node, edge)
            is_back = reading == "simple" and node == way[0]
            if (node, behind) not in reached and (bit & used == 0 or is_back):
                reached[node, behind] = (place, label, met | bit, counts and (bit & met == 0 or is_back))
                todo.append((node, behind))
    return reached


def way_to(reached, place):
    """The rest of the way that leads on to a place that is reached: its labels and nodes behind the partial way."""
    told = []
    while reached[place][0] is not None:
        told.append(place[0])
        told.append(reached[place][1])
        place = reached[place][0]
    return tuple(told[::-1])


def rest_of(steps, lasts, reading, partial, goal):
    """The rest of a shortest walk on to a node at which a word ends, and whether the whole counts; None if none is."""
    reached = reach_on(steps, reading, partial)
    for place in reached:
        if place[0] == goal and place[1] in lasts:
            return way_to(reached, place), reached[place][3]
    return None


def most_edges(graph, reading, is_ring):
    """The most edges that a way can have that counts by a narrower reading than "walk", if it may be a ring or not."""
    if reading == "trail":
        return len(graph.edges)
    return len(graph) if reading == "simple" and is_ring else len(graph) - 1


def shortest_way(steps, lasts, reading, begin, goal, graph):
    """A way with the fewest edges that counts, leads from a partial way to a node, and has a word; None if none does.

    Partial ways are taken up by the fewest edges of walks that go on from them. So the first whole one that counts
    is as short as any.
    """
    most = most_edges(graph, reading, begin[0][0] == goal)
    waiting = {}
    todo = [begin]
    while True:
        for partial in todo:
            rest = rest_of(steps, lasts, reading, partial, goal)
            # A walk that does not count tells that no way counts if it has more edges than any such way.
            if rest is not None and (rest[1] or len(partial[0]) + len(rest[0]) <= 2 * most + 1):
                waiting.setdefault(len(partial[0]) + len(rest[0]), []).append((partial, rest))
        if not waiting:
            return None
        fewest = min(list(waiting))
        partial, (rest, counts) = waiting[fewest].pop()
        if not waiting[fewest]:
            del waiting[fewest]
        if counts:
            return partial[0] + rest
        todo = longer_ways(steps, reading, partial)


def fewest_edges(steps, lasts, graph, kinds):
    """The dict from places to the fewest edges of walks from there on that end a word."""
    behind = {}
    for place, ahead in steps.items():
        for _, node, state, _ in ahead:
            behind.setdefault((node, state), []).append(place)
    todo = [(node, state) for node, kind in enumerate(graph.kinds) for state in lasts if kinds[state] == kind]
    fewest = {place: 0 for place in todo}
    at = 0
    while at < len(todo):
        end = todo[at]
        at += 1
        for place in behind.get(end, []):
            if place not in fewest:
                fewest[place] = fewest[end] + 1
                todo.append(place)
    return fewest


def does_end(steps, lasts, fewest, reading, partial, most):
    """Whether a walk goes on from a partial way to the end of a word, without what it must not meet again.

    It has at most so many edges. By "walk" the fewest edges tell that already.
    """
    way, state, used = partial
    todo = [(way[-1], state)]
    if fewest.get(todo[0], most + 1) > most:
        return False
    seen = {todo[0]: True}
    while todo:
        most -= 1
        behind = []
        for place in todo:
            if place[1] in lasts or reading == "walk":
                return True
            for label, node, target, edge in steps.get(place, []):
                is_back = reading == "simple" and node == way[0] and target in lasts
                if (bit_of(reading, node, edge) & used == 0 or is_back) and (node, target) not in seen:
                    if fewest.get((node, target), most + 1) <= most:
                        seen[node, target] = True
                        behind.append((node, target))
        todo = behind
    return False
