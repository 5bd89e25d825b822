"""Plain reckonings by the words of the document, in other ways than those of the package, to compare it with."""
import itertools

from whichwalks.base.words import words_of


def words_up_to(schema, size):
    return [word for edges in range(size + 1) for word in words_of(schema, edges)]


def joined_words(ones, others, size):
    """The words of the ones joined to words of the others, as far as they have at most so many edges."""
    return {
        one + other[1:] for one in ones for other in others
        if one[-1] == other[0] and len(one) // 2 + len(other) // 2 <= size
    }


def words_told(schema, expression, size):
    """The set of the words of an expression with at most so many edges, by [4.1]."""
    sort = expression[0]
    if sort == "kind":
        return {(expression[1],)}
    if sort == "label":
        return {word for word in words_of(schema, 1) if word[1] == expression[1] and size >= 1}
    ones = words_told(schema, expression[1], size)
    if sort == "then":
        return joined_words(ones, words_told(schema, expression[2], size), size)
    if sort == "or":
        return ones | words_told(schema, expression[2], size)
    empty = set(words_of(schema, 0))
    if sort == "maybe":
        return ones | empty
    many = set(ones)
    while True:
        more = many | joined_words(many, ones, size)
        if more == many:
            return many | empty if sort == "star" else many
        many = more


def net_told(schema, expression):
    """Steps with labels, and steps without an edge that can ask for a kind, from point 0 to point 1."""
    counter = itertools.count(2)
    edges, frees = [], []

    def add(expression, begin, end):
        sort = expression[0]
        if sort == "kind":
            frees.append((begin, expression[1], end))
        elif sort == "label":
            edges.append((begin, expression[1], end))
        elif sort == "or":
            add(expression[1], begin, end)
            add(expression[2], begin, end)
        elif sort == "then":
            middle = next(counter)
            add(expression[1], begin, middle)
            add(expression[2], middle, end)
        else:
            one, other = next(counter), next(counter)
            frees.extend([(begin, None, one), (other, None, end)])
            add(expression[1], one, other)
            if sort in ("star", "maybe"):
                frees.append((begin, None, end))
            if sort in ("star", "plus"):
                frees.append((other, None, one))

    add(expression, 0, 1)
    return edges, frees


def least_of_expression(schema, expression):
    """The least machine of an expression: all sets of points are built first, and made one where they are alike."""
    edges, frees = net_told(schema, expression)

    def closed(points, kind):
        points = set(points)
        while True:
            more = {end for begin, asked, end in frees if begin in points and asked in (None, kind)} - points
            if not more:
                return (kind, frozenset(points))
            points |= more

    def ahead(state):
        kind, points = state
        found = {}
        for one, label, other in schema.steps():
            ends = {end for begin, name, end in edges if begin in points and name == label}
            if one == kind and ends:
                found[label, other] = closed(ends, other)
        return found

    return least_told([closed({0}, kind) for kind in schema.kinds], ahead, lambda state: 1 in state[1])


def least_of_machine(machine):
    """The least machine of a machine, or of a net with several steps of a state with one label and kind."""
    kinds, firsts, steps, lasts = machine

    def ahead(state):
        found = {}
        for source, label, target in steps:
            if source in state[1]:
                found.setdefault((label, kinds[target]), set()).add(target)
        return {sign: (sign[1], frozenset(targets)) for sign, targets in found.items()}

    begins = [(kind, frozenset(state for state in firsts if kinds[state] == kind)) for kind in sorted(set(kinds))]
    return least_told(
        [begin for begin in begins if begin[1]], ahead, lambda state: any(one in lasts for one in state[1]),
    )


def least_told(begins, ahead, is_last):
    """The least machine with these first states, by [5.2]; a state is a pair whose first part is its kind."""
    steps = {}
    todo = list(begins)
    while todo:
        state = todo.pop()
        if state not in steps:
            steps[state] = ahead(state)
            todo.extend(steps[state].values())
    useful = {state for state in steps if is_last(state)}
    while True:
        more = {state for state in steps if any(target in useful for target in steps[state].values())} - useful
        if not more:
            break
        useful |= more
    steps = {state: {sign: to for sign, to in steps[state].items() if to in useful} for state in useful}
    alike = {state: (state[0], is_last(state)) for state in useful}
    while True:
        told = {state: (alike[state], frozenset((s, alike[to]) for s, to in steps[state].items())) for state in useful}
        numbers = {value: at for at, value in enumerate(set(told.values()))}
        is_done = len(numbers) == len(set(alike.values()))
        alike = {state: numbers[told[state]] for state in useful}
        if is_done:
            return numbered([state for state in begins if state in useful], steps, alike, is_last)


def numbered(begins, steps, alike, is_last):
    """The machine of states of which some are alike, numbered as they are met."""
    numbers, order = {}, []

    def meet(state):
        if alike[state] not in numbers:
            numbers[alike[state]] = len(order)
            order.append(state)
        return numbers[alike[state]]

    firsts = tuple(meet(state) for state in sorted(begins, key=lambda state: state[0]))
    told = set()
    for at, state in enumerate(order):
        for sign in sorted(steps[state]):
            told.add((at, sign[0], meet(steps[state][sign])))
    lasts = tuple(at for at, state in enumerate(order) if is_last(state))
    return tuple(state[0] for state in order), firsts, tuple(sorted(told)), lasts


def machine_words(machine, size):
    """The set of the words of a machine with at most so many edges."""
    kinds, firsts, steps, lasts = machine
    told = [((kinds[state],), state) for state in firsts]
    found = set()
    for _ in range(size + 1):
        found |= {word for word, state in told if state in lasts}
        told = [(word + (label, kinds[to]), to) for word, at in told for state, label, to in steps if state == at]
    return found


def some_expressions(schema, chooser, many):
    """Expressions with few parts, chosen without order."""
    found = [("kind", kind) for kind in schema.kinds] + [("label", label) for label in schema.labels]
    while len(found) < many:
        sort = chooser.choice(("maybe", "or", "or", "plus", "star", "then", "then", "then"))
        found.append((sort,) + tuple(chooser.choice(found) for _ in range(1 + (sort in ("or", "then")))))
        if parts_of(found[-1]) > 12:
            found.pop()
    return found


def parts_of(expression):
    return 1 + sum(parts_of(inner) for inner in expression[1:] if isinstance(inner, tuple))


def some_machine(schema, chooser, many):
    """A machine with so many states, chosen without order, perhaps not least."""
    kinds = tuple(chooser.choice(schema.kinds) for _ in range(many))
    steps, taken = [], set()
    for _ in range(3 * many):
        state, target = chooser.randrange(many), chooser.randrange(many)
        for label in chooser.sample(schema.labels, len(schema.labels)):
            if schema.fits(kinds[state], label, kinds[target]) and (state, label, kinds[target]) not in taken:
                taken.add((state, label, kinds[target]))
                steps.append((state, label, target))
                break
    firsts = {kinds[state]: state for state in range(many) if chooser.random() < 0.6}
    lasts = tuple(state for state in range(many) if chooser.random() < 0.4)
    return kinds, tuple(sorted(firsts.values())), tuple(sorted(steps)), lasts
