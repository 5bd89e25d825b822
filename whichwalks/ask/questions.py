"""Questions: sets of words, each kept as its least machine."""
from whichwalks.ask.expressions import check_expression, read
from whichwalks.ask.least import least_of_net, machine_of
from whichwalks.ask.machines import counts_to_lasts, firsts_of, shortest_word, targets_of, words_of_size
from whichwalks.ask.nets import empty_net, or_net, pair_net, plus_net, then_net, turned_net
from whichwalks.ask.tries import net_of_words
from whichwalks.base.names import is_integer
from whichwalks.base.schemas import check_schema
from whichwalks.base.words import MAX_SIZE, MAX_WORDS, check_word, is_word
from whichwalks.errors import InvalidNumber, InvalidOperation, InvalidQuestion, TooMany

MAX_STATES = 24
MAX_JUDGED = 100
MAX_COUNTED = 400


class Least:
    """A least machine that is told to a question in the place of an expression."""

    def __init__(self, machine):
        self.told = machine


class Question:
    """A set of words of a schema."""

    def __init__(self, schema, expression):
        if isinstance(expression, Least):
            self._machine = expression.told
        else:
            check_expression(schema, expression)
            self._machine = machine_of(schema, expression, MAX_STATES)
        self._schema = schema
        self._firsts = firsts_of(self._machine)
        self._targets = targets_of(self._machine)

    @classmethod
    def read(cls, schema, text):
        """The question with the words of the expression of a text."""
        return cls(schema, read(schema, text))

    @classmethod
    def of_words(cls, schema, words):
        """The question with just these words."""
        check_schema(schema)
        if not isinstance(words, tuple):
            raise InvalidOperation("the words are no tuple")
        for word in words:
            check_word(schema, word)
        return cls(schema, Least(least_of_net(net_of_words(words, MAX_STATES), MAX_STATES)))

    @classmethod
    def of_machine(cls, schema, machine):
        """The question with the words of a machine, least or not."""
        if not is_machine(schema, machine):
            raise InvalidOperation("this is no machine over the schema")
        return cls(schema, Least(least_of_net(machine, MAX_STATES)))

    @property
    def schema(self):
        """The schema of the words."""
        return self._schema

    @property
    def machine(self):
        """The least machine."""
        return self._machine

    @property
    def firsts(self):
        """The dict from kinds to their first states."""
        return dict(self._firsts)

    def __or__(self, other):
        check_operand(self, other)
        return question_of(self._schema, or_net(self._machine, other._machine))

    def __and__(self, other):
        check_operand(self, other)
        return question_of(self._schema, pair_net(self._machine, other._machine, False))

    def __sub__(self, other):
        check_operand(self, other)
        return question_of(self._schema, pair_net(self._machine, other._machine, True))

    def __add__(self, other):
        check_operand(self, other)
        return question_of(self._schema, then_net(self._machine, other._machine))

    # These run only if the first operand is no question, because two questions never come here.
    def __ror__(self, other):
        raise InvalidOperation("the first operand is no question")

    def __rand__(self, other):
        raise InvalidOperation("the first operand is no question")

    def __rsub__(self, other):
        raise InvalidOperation("the first operand is no question")

    def __radd__(self, other):
        raise InvalidOperation("the first operand is no question")

    def starred(self):
        """The empty words of all kinds, and each word joined of one or more words of the question."""
        return question_of(self._schema, or_net(plus_net(self._machine), empty_net(self._schema)))

    def turned(self):
        """The words turned, over the turned schema."""
        return question_of(self._schema.turned(), turned_net(self._machine))

    def over(self, schema):
        """The same words over another schema."""
        if not is_machine(schema, self._machine):
            raise InvalidOperation("the words do not fit the schema")
        return Question(schema, Least(self._machine))

    def __contains__(self, value):
        return is_word(self._schema, value) and end_of(self._firsts, self._targets, value) in self._machine[3]

    def __len__(self):
        return len(self._machine[0])

    def __bool__(self):
        return bool(self._machine[0])

    def __eq__(self, other):
        return isinstance(other, Question) and self._schema == other._schema and self._machine == other._machine

    def __str__(self):
        return f"question of {len(self._machine[0])} states, {len(self._machine[2])} steps"

    def state(self, word):
        """The state to which the word leads, or None."""
        check_word(self._schema, word)
        return end_of(self._firsts, self._targets, word)

    def target(self, state, label, kind):
        """The target of the step from a state with this label and kind, or None."""
        check_state(self, state)
        if not isinstance(label, str) or not isinstance(kind, str):
            return None
        return self._targets.get((state, label, kind))

    def words(self, size):
        """The ascending tuple of the words with so many edges."""
        check_size(size, MAX_SIZE)
        if self.count(size) > MAX_WORDS:
            raise TooMany(MAX_WORDS)
        return tuple(words_of_size(self._machine, size))

    def count(self, size):
        """The number of the words with so many edges."""
        check_size(size, MAX_COUNTED)
        counts = counts_to_lasts(self._machine, size)[size]
        return sum([counts[state] for state in self._machine[1]])

    def shortest(self):
        """The first one in Python's order of the words with the fewest edges, or None."""
        return shortest_word(self._machine)


def is_machine(schema, value):
    """Whether the value is a machine over the schema, least or not, with at most 100 states."""
    check_schema(schema)
    if not isinstance(value, tuple) or len(value) != 4 or not all([isinstance(part, tuple) for part in value]):
        return False
    kinds, firsts, steps, lasts = value
    if len(kinds) > MAX_JUDGED or not all([kind in schema.kinds for kind in kinds]):
        return False
    if not are_states(kinds, firsts) or not are_states(kinds, lasts):
        return False
    if len(set([kinds[state] for state in firsts])) != len(firsts):
        return False
    return are_steps(schema, kinds, steps)


def are_states(kinds, value):
    """Whether the tuple ascends and has only states of these kinds."""
    return all([is_state(kinds, state) for state in value]) and does_ascend(value)


def is_state(kinds, value):
    """Whether the value is a state, if the states have these kinds."""
    return is_integer(value) and 0 <= value < len(kinds)


def does_ascend(values):
    """Whether the values of a tuple, which Python can order, ascend."""
    return all([one < other for one, other in zip(values, values[1:])])


def are_steps(schema, kinds, value):
    """Whether the tuple ascends and has only steps that fit, no two of a state with the same label and kind."""
    if not all([is_step(schema, kinds, step) for step in value]) or not does_ascend(value):
        return False
    return len(set([(state, label, kinds[target]) for state, label, target in value])) == len(value)


def is_step(schema, kinds, value):
    """Whether the value is a step that fits, if the states have these kinds."""
    if not isinstance(value, tuple) or len(value) != 3:
        return False
    state, label, target = value
    return is_state(kinds, state) and is_state(kinds, target) and schema.fits(kinds[state], label, kinds[target])


def check_question(value):
    """Raise InvalidQuestion unless the value is a question."""
    if not isinstance(value, Question):
        raise InvalidQuestion("this is no question")


def check_operand(question, other):
    """Raise InvalidOperation unless the other operand is a question over an equal schema."""
    if not isinstance(other, Question) or question.schema != other.schema:
        raise InvalidOperation("the other operand is no question over an equal schema")


def check_state(question, value):
    """Raise InvalidNumber unless the value is a state of the question."""
    if not is_state(question.machine[0], value):
        raise InvalidNumber(value)


def check_size(value, most):
    """Raise InvalidNumber unless the value is an integer from 0 to the most."""
    if not is_integer(value) or not 0 <= value <= most:
        raise InvalidNumber(value)


def question_of(schema, net):
    """The question with the words of a net."""
    return Question(schema, Least(least_of_net(net, MAX_STATES)))


def end_of(firsts, targets, word):
    """The state to which a word leads from the first state of its kind, or None."""
    state = firsts.get(word[0])
    for at in range(1, len(word), 2):
        state = targets.get((state, word[at], word[at + 1]))
    return state
