"""Expressions over a schema, their words, and their texts."""
from whichwalks.ask.nets import has_net, net_of
from whichwalks.base.schemas import check_schema
from whichwalks.base.words import check_word
from whichwalks.errors import InvalidExpression, InvalidOperation, ParseError, TooMany

MAX_PARTS = 40
SORTS = ("kind", "label", "maybe", "or", "plus", "star", "then")
SIGNS = "|()*+?"
MARKS = {"maybe": "?", "plus": "+", "star": "*"}
MARKED = {"?": "maybe", "+": "plus", "*": "star"}
# "or" and "then" by the tokens between two expressions; no token tells "then" in a text, so a blank does here.
PAIRED = {"|": "or", " ": "then"}
RANKS = {"(": 0, "|": 1, " ": 2}
# The sorts that bind less than "then", and no more than it.
LOOSE = ("or",)
LOOSER = ("or", "then")


def is_expression(schema, value):
    """Whether the value is an expression over the schema."""
    check_schema(schema)
    todo = [value]
    parts = 0
    while todo:
        parts += 1
        inner = inner_values(schema, todo.pop())
        if inner is None or parts > MAX_PARTS:
            return False
        todo.extend(inner)
    return True


def has_word(schema, expression, word):
    """Whether the expression stands for the word."""
    check_expression(schema, expression)
    check_word(schema, word)
    return has_net(net_of(schema, expression), word)


def write(schema, expression):
    """The text of the expression."""
    check_expression(schema, expression)
    return text_of(expression)


def read(schema, text):
    """The expression of the text."""
    check_schema(schema)
    if not isinstance(text, str):
        raise InvalidOperation("this is no text")
    tokens = tokens_of(schema, text)
    if len([token for token in tokens if token not in ("(", ")")]) > MAX_PARTS:
        raise TooMany(MAX_PARTS)
    return tree_of(tokens)


def check_expression(schema, value):
    """Raise an error unless these are a schema and an expression over it."""
    if not is_expression(schema, value):
        raise InvalidExpression("this is no expression over the schema")


def inner_values(schema, value):
    """What should be the inner expressions of the value; None if it is no expression whatever they are."""
    if not isinstance(value, tuple) or len(value) == 0 or value[0] not in SORTS:
        return None
    if len(value) != (3 if value[0] in ("or", "then") else 2):
        return None
    if value[0] == "kind":
        return () if value[1] in schema.kinds else None
    if value[0] == "label":
        return () if value[1] in schema.labels else None
    return value[1:]


def text_of(expression):
    """The text of an expression."""
    sort, one = expression[0], expression[1]
    if sort == "kind":
        return f":{one}"
    if sort == "label":
        return one
    if sort == "or":
        return f"{text_of(one)}|{enclosed(expression[2], LOOSE)}"
    if sort == "then":
        return f"{enclosed(one, LOOSE)} {enclosed(expression[2], LOOSER)}"
    return enclosed(one, LOOSER) + MARKS[sort]


def enclosed(expression, sorts):
    """The text of an expression, in parentheses if it is of one of these sorts."""
    return f"({text_of(expression)})" if expression[0] in sorts else text_of(expression)


def tokens_of(schema, text):
    """The list of the tokens of the text, with a blank between two expressions beside one another."""
    # Behind the beginning can stand just what can stand behind an open parenthesis.
    tokens = ["("]
    depth = 0
    at = 0
    while at < len(text):
        if text[at] == " ":
            at += 1
            continue
        token = token_at(schema, text, at)
        ended = tokens[-1] not in ("(", "|")
        if token == "" or not can_stand(token, ended, depth):
            raise ParseError(at)
        if ended and does_begin(token):
            tokens.append(" ")
        tokens.append(token)
        depth += int(token == "(") - int(token == ")")
        at += len(token)
    if depth > 0 or tokens[-1] in ("(", "|"):
        raise ParseError(len(text))
    return tokens[1:]


def token_at(schema, text, at):
    """The token that begins at the index, or an empty string if none does."""
    if text[at] in SIGNS:
        return text[at]
    first = at + 1 if text[at] == ":" else at
    behind = first
    while behind < len(text) and "a" <= text[behind] <= "z":
        behind += 1
    names = schema.kinds if text[at] == ":" else schema.labels
    return text[at:behind] if text[first:behind] in names else ""


def does_begin(token):
    """Whether an expression can begin with the token."""
    return token not in ("|", ")", "*", "+", "?")


def can_stand(token, ended, depth):
    """Whether the token can stand there: behind the end of an expression or not, within so many parentheses."""
    if token == ")":
        return ended and depth > 0
    return ended or does_begin(token)


def tree_of(tokens):
    """The expression with these tokens."""
    trees = []
    waiting = []
    for token in tokens:
        if token == "(":
            waiting.append(token)
        elif token == ")":
            pair_up(trees, waiting, 1)
            waiting.pop()
        elif token in PAIRED:
            pair_up(trees, waiting, RANKS[token])
            waiting.append(token)
        elif token in MARKED:
            trees.append((MARKED[token], trees.pop()))
        elif token[0] == ":":
            trees.append(("kind", token[1:]))
        else:
            trees.append(("label", token))
    pair_up(trees, waiting, 1)
    return trees[0]


def pair_up(trees, waiting, rank):
    """Join the last trees by the last signs that wait, as long as these bind at least so much."""
    while waiting and RANKS[waiting[-1]] >= rank:
        other = trees.pop()
        trees.append((PAIRED[waiting.pop()], trees.pop(), other))
