"""The least machine of a net.

Its states are found as sets of states of the net that differ in the words that lead from them to last states. Which
words are to be looked at is learned: as long as the machine that they tell and the net have not the same words, one
that shows it is taken, with all its ends. So there are never more sets than states of the least machine, although
the words lead to ever so many.

A set of states is an integer whose bits are the states. A sign is a pair (label, kind) of a step and its target.
"""
from whichwalks.ask.nets import inner_expressions, net_of_parts
from whichwalks.errors import TooMany


def least_of_net(net, limit):
    """The least machine with the words of the net; TooMany if it has more states than the limit."""
    table = table_of(net)
    columns = (table[2],)
    while True:
        machine = machine_told(table, columns, limit)
        signs = difference(table, machine)
        if signs is None:
            return machine
        found = columns_of(table, signs)
        columns = columns + tuple([column for column in found if column not in columns])


def machine_of(schema, expression, limit):
    """The least machine of an expression; TooMany if it, or that of an inner one, has more states than the limit."""
    inner = [machine_of(schema, part, limit) for part in inner_expressions(expression)]
    return least_of_net(net_of_parts(schema, expression, inner), limit)


def table_of(net):
    """The sets of first states by their kinds, for each state the dict from its signs to its targets, the last states.

    States from which no word leads to a last one are left out. So each set that is not empty has a word.
    """
    kinds, firsts, steps, lasts = net
    useful = useful_states(steps, lasts)
    begins = {}
    for state in firsts:
        if state in useful:
            begins[kinds[state]] = begins.get(kinds[state], 0) | (1 << state)
    targets = {}
    for state, label, target in steps:
        if target in useful:
            key = (state, (label, kinds[target]))
            targets[key] = targets.get(key, 0) | (1 << target)
    rows = {}
    for (state, sign), found in targets.items():
        rows[state] = rows.get(state, ()) + ((sign, found),)
    moves = [dict(rows.get(state, ())) for state in range(len(kinds))]
    return begins, moves, set_of(lasts)


def useful_states(steps, lasts):
    """A dict of the states from which a word leads to a last one."""
    useful = {}
    for state in lasts:
        useful[state] = True
    before = -1
    while before < len(useful):
        before = len(useful)
        for state, _, target in reversed(list(steps)):
            if target in useful:
                useful[state] = True
    return useful


def set_of(states):
    """The integer whose bits are the states."""
    found = 0
    for state in states:
        found = found | (1 << state)
    return found


def states_in(found):
    """The ascending list of the states that are the bits of an integer."""
    states = []
    while found > 0:
        states.append((found & -found).bit_length() - 1)
        found = found & (found - 1)
    return states


def all_moves(moves, found):
    """The dict from the signs of steps of these states to all their targets."""
    targets = {}
    for state in states_in(found):
        for sign, target in moves[state].items():
            targets[sign] = targets.get(sign, 0) | target
    return targets


def machine_told(table, columns, limit):
    """The machine whose states are the sets that the columns tell apart, numbered as they are met."""
    begins, moves, _ = table
    todo = [(None, ("", kind), begins[kind]) for kind in sorted(begins)]
    numbers = {}
    kinds = []
    firsts = []
    steps = []
    lasts = []
    at = 0
    while at < len(todo):
        source, sign, found = todo[at]
        at += 1
        told = (sign[1], tuple([found & column == 0 for column in columns]))
        if told not in numbers:
            if len(kinds) == limit:
                raise TooMany(limit)
            numbers[told] = len(kinds)
            if not told[1][0]:
                lasts.append(len(kinds))
            targets = all_moves(moves, found)
            todo.extend([(len(kinds), label, targets[label]) for label in sorted(targets)])
            kinds.append(sign[1])
        if source is None:
            firsts.append(numbers[told])
        else:
            steps.append((source, sign[0], numbers[told]))
    return tuple(kinds), tuple(firsts), tuple(sorted(steps)), tuple(lasts)


def difference(table, machine):
    """The signs of a word that only one of both has, the net of the table or the machine; None if there is no such."""
    ahead = signs_ahead(machine)
    signs = word_of_net_only(table, machine, ahead)
    return word_of_machine_only(table, machine, ahead) if signs is None else signs


def signs_ahead(machine):
    """The list of the dicts from the signs of steps to their targets, for each state of the machine."""
    kinds, _, steps, _ = machine
    rows = {}
    for state, label, target in steps:
        rows[state] = rows.get(state, ()) + (((label, kinds[target]), target),)
    return [dict(rows.get(state, ())) for state in range(len(kinds))]


def word_of_net_only(table, machine, ahead):
    """The signs of a word that the net has, but not the machine, or None."""
    begins, moves, last = table
    todo = [(state, one, ()) for state in machine[1] for one in states_in(begins[machine[0][state]])]
    seen = {}
    at = 0
    while at < len(todo):
        state, one, signs = todo[at]
        at += 1
        if (state, one) in seen:
            continue
        seen[state, one] = True
        if last & (1 << one) and state not in machine[3]:
            return signs
        for sign, targets in moves[one].items():
            target = None if state is None else ahead[state].get(sign)
            todo.extend([(target, other, signs + (sign,)) for other in states_in(targets)])
    return None


def word_of_machine_only(table, machine, ahead):
    """The signs of a word that the machine has, but not the net, or None.

    If there is such a word for a set of states of the net, there is one for each smaller set; so those that have a
    smaller one, met with the same state of the machine, are left out.
    """
    begins, moves, last = table
    todo = [(state, begins[machine[0][state]], ()) for state in machine[1]]
    seen = {}
    smaller = {}
    at = 0
    while at < len(todo):
        state, found, signs = todo[at]
        at += 1
        # Most sets that are met again are just the same.
        if (state, found) in seen or has_smaller(smaller.get(state, ()), found):
            continue
        seen[state, found] = True
        smaller[state] = smaller.get(state, ()) + (found,)
        if state in machine[3] and found & last == 0:
            return signs
        targets = all_moves(moves, found)
        todo.extend([(target, targets.get(sign, 0), signs + (sign,)) for sign, target in ahead[state].items()])
    return None


def has_smaller(known, found):
    """Whether one of the known sets is a part of the found one."""
    for other in known:
        if found & other == other:
            return True
    return False


def columns_of(table, signs):
    """For each end of the signs that is not empty the states from which it leads to a last state."""
    _, moves, column = table
    columns = []
    for sign in reversed(list(signs)):
        column = set_of([state for state, targets in enumerate(moves) if targets.get(sign, 0) & column])
        columns.append(column)
    return columns
