"""The words that are not in a narrower question, learned as its least machine.

Which words are to be looked at is learned, as for each least machine. But whether the narrower question has words that
are not known yet is not asked of all sets of points to which words lead, which can be ever so many: the shortest such
words have only cuts that leave known words, and of these words the sets are few.
"""
from whichwalks.ask.least import (
    all_moves, columns_of, has_smaller, least_of_net, machine_told, signs_ahead, table_of, word_of_net_only,
)
from whichwalks.ask.machines import fewest_to_lasts
from whichwalks.ask.nets import pair_net
from whichwalks.base.words import steps_behind
from whichwalks.close.spoilt import lacking_net, once_spoilt_net, spoilt_net


def spoilt_machine(question, conditions, limit):
    """The machine of all words that are not in the narrower question; TooMany if it has more states than the limit."""
    table = table_of(spoilt_net(question.schema, question.machine, conditions))
    columns = (table[2],)
    while True:
        machine = machine_told(table, columns, limit)
        signs = word_of_net_only(table, machine, signs_ahead(machine))
        if signs is None:
            signs = word_unknown(question, conditions, machine, limit)
        if signs is None:
            return machine
        found = columns_of(table, signs)
        columns = columns + tuple([column for column in found if column not in columns])


def word_unknown(question, conditions, machine, limit):
    """The signs of a word of the machine that is in the narrower question, or None.

    The machine has all words that are not in the narrower question, and perhaps others.
    """
    schema = question.schema
    known = least_of_net(lacking_net(schema, machine), limit)
    net = once_spoilt_net(schema, known, conditions)
    return word_outside(table_of(net), pair_net(question.machine, machine, False), full_states(schema, net))


def word_outside(table, machine, full):
    """The signs of a word that the machine has, but not the net with the table, or None.

    It is sought first where the fewest edges lead on to a last state of the machine. Sets of states of the net are left
    out if they have a smaller one, met with the same state of the machine, or a full one, from which the net has each
    word.
    """
    begins, moves, last = table
    ahead, fewest = signs_ahead(machine), fewest_to_lasts(machine)
    waiting = {}
    for state in machine[1]:
        if state in fewest:
            waiting.setdefault(fewest[state], []).append((state, begins.get(machine[0][state], 0), ()))
    seen = {}
    smaller = {}
    while waiting:
        edges = min(list(waiting))
        state, found, signs = waiting[edges].pop()
        if not waiting[edges]:
            del waiting[edges]
        known = smaller.setdefault(state, [])
        if found & full or has_smaller(known, found):
            continue
        known.append(found)
        if state in machine[3] and found & last == 0:
            return signs
        targets = all_moves(moves, found)
        for sign, target in ahead[state].items():
            behind = targets.get(sign, 0)
            # Most sets that are met again are just the same.
            if target in fewest and (target, behind) not in seen:
                seen[target, behind] = True
                waiting.setdefault(fewest[target], []).append((target, behind, signs + (sign,)))
    return None


def full_states(schema, net):
    """The states of the net from which it has each word of the schema, as the bits of an integer.

    Perhaps there are others, too.
    """
    kinds, _, steps, lasts = net
    signs = steps_behind(schema)
    full = {state: True for state in lasts}
    before = -1
    while before != len(full):
        before = len(full)
        met = {}
        for state, label, target in steps:
            if target in full:
                met[state, label, kinds[target]] = True
        full = {
            state: True for state in full if all([(state, label, kind) in met for label, kind in signs[kinds[state]]])
        }
    found = 0
    for state in full:
        found = found | (1 << state)
    return found
