"""Expressions: what is one, the words for which it stands, and its text."""
import random

from tests.helpers import FULL, HOME, MIXED, NO_SCHEMAS, NO_WORDS, ONE, ROADS, STRANGE, Case
from tests.reckoning import net_told, some_expressions, words_told, words_up_to
from whichwalks.ask.expressions import MAX_PARTS, SORTS, has_word, is_expression, read, write
from whichwalks.errors import (
    InvalidExpression, InvalidNumber, InvalidOperation, InvalidSchema, InvalidWord, ParseError, TooMany,
)

ALL = (ONE, ROADS, MIXED)
A, B, N = ("label", "a"), ("label", "b"), ("kind", "n")

NO_EXPRESSIONS = STRANGE + (
    (), "a", 7, ONE, ("a",), ("label",), ("label", "c"), ("label", "n"), ("kind", "a"), ["label", "a"], ("star", "a"),
)


def row_of(sort, many):
    """An expression with an odd number of parts: inner ones in a long row, the last one deep within all others."""
    one = A
    for _ in range((many - 1) // 2):
        one = (sort, one, B)
    return one


class Judged(Case):

    def test_every_sort(self):
        right = (
            A, N, ("then", A, N), ("or", N, B), ("star", A), ("plus", N), ("maybe", B), ("star", ("star", A)),
            ("then", ("or", A, B), ("plus", ("then", N, A))), ("maybe", ("maybe", ("plus", ("plus", N)))),
        )
        for value in right:
            with self.subTest(value=value):
                self.same(is_expression(ONE, value), True)
        self.same(SORTS, ("kind", "label", "maybe", "or", "plus", "star", "then"))

    def test_every_sort_with_parts_more_less_or_of_another_kind(self):
        for sort in SORTS:
            inner = {"kind": ("n",), "label": ("a",), "or": (A, B), "then": (A, B)}.get(sort, (A,))
            self.same(is_expression(ONE, (sort,) + inner), True)
            wrong = [(sort,), (sort,) + inner[1:], (sort,) + inner + (A,), (sort,) + inner + ("a",), [sort, *inner]]
            wrong += [(sort.upper(),) + inner, (sort + "s",) + inner, (None,) + inner, ((sort,),) + inner]
            for at in range(len(inner)):
                for strange in STRANGE + (7, (), "z", ONE, ("a",), list(A), [N], {"label": "a"}, ("star", list(A))):
                    wrong.append((sort,) + inner[:at] + (strange,) + inner[at + 1:])
            for value in wrong:
                with self.subTest(value=value):
                    self.same(is_expression(ONE, value), False)
                    self.same(is_expression(ONE, ("star", value)), False)
                    self.same(is_expression(ONE, ("or", A, value)), False)
                    self.same(is_expression(ONE, ("then", value, A)), False)

    def test_sorts_with_the_parts_of_others(self):
        for value in (
            ("kind", "a"), ("label", "n"), ("kind", N), ("label", A), ("star", "a"), ("star", A, B), ("plus", N, N),
            ("maybe", A, A), ("or", A), ("then", A), ("or", A, B, A), ("then", A, B, A), ("or", "a", "b"),
        ):
            self.same(is_expression(ONE, value), False)

    def test_values_that_are_none(self):
        for value in NO_EXPRESSIONS:
            with self.subTest(value=value):
                self.same(is_expression(ONE, value), False)

    def test_another_schema_decides_by_its_own_names(self):
        self.same(is_expression(ROADS, A), False)
        self.same(is_expression(ROADS, ("kind", "city")), True)
        self.same(is_expression(ONE, ("star", ("label", "road"))), False)
        self.same(is_expression(ROADS, ("star", ("label", "road"))), True)
        other = ONE.renamed({"a": "n", "n": "a"})
        self.same([is_expression(ONE, ("then", A, N)), is_expression(other, ("then", A, N))], [True, False])
        self.same([is_expression(other, ("then", ("kind", "a"), ("label", "n")))], [True])

    def test_numbers_of_parts(self):
        for sort in ("or", "then"):
            self.same([is_expression(ONE, row_of(sort, many)) for many in (37, 39, 41, 43)], [True, True, False, False])
            self.same(is_expression(ONE, ("star", row_of(sort, 39))), True)
            self.same(is_expression(ONE, ("star", ("plus", row_of(sort, 39)))), False)
            self.same(is_expression(ONE, (sort, row_of(sort, 19), row_of(sort, 19))), True)
            self.same(is_expression(ONE, (sort, ("star", row_of(sort, 19)), row_of(sort, 19))), True)
            self.same(is_expression(ONE, (sort, row_of(sort, 21), row_of(sort, 19))), False)
        for sort in ("maybe", "plus", "star"):
            one = N
            for parts in range(1, 60):
                self.same(is_expression(ONE, one), parts <= MAX_PARTS)
                one = (sort, one)

    def test_ever_so_many_parts(self):
        one = A
        for _ in range(5000):
            one = ("star", one)
        self.same(is_expression(ONE, one), False)
        self.same(is_expression(ONE, row_of("or", 5001)), False)


class Words(Case):

    def test_examples_by_hand(self):
        told = (
            ("star", N, [("n",)], [("n", "a", "n")]),
            ("plus", A, [("n", "a", "n"), ("n", "a", "n", "a", "n")], [("n",), ("n", "a", "n", "b", "n")]),
            ("maybe", B, [("n",), ("n", "b", "n")], [("n", "b", "n", "b", "n"), ("n", "a", "n")]),
        )
        for sort, one, has, lacks in told:
            self.same([has_word(ONE, (sort, one), word) for word in has], [True] * len(has))
            self.same([has_word(ONE, (sort, one), word) for word in lacks], [False] * len(lacks))
        # The empty words of all kinds are in what is starred, also of kinds that the inner expression does not have.
        self.same(has_word(ROADS, ("star", ("label", "road")), ("person",)), True)
        self.same(has_word(ROADS, ("maybe", ("label", "road")), ("person",)), True)
        self.same(has_word(ROADS, ("plus", ("label", "road")), ("person",)), False)
        self.same(has_word(ROADS, ("kind", "city"), ("person",)), False)
        self.same(has_word(ROADS, ("then", ("kind", "city"), ("label", "lives")), HOME[2:]), False)
        self.same(has_word(ROADS, ("then", ("label", "lives"), ("kind", "city")), HOME[2:]), True)

    def test_all_words_with_at_most_four_edges(self):
        chooser = random.Random(4)
        for schema in ALL:
            words = words_up_to(schema, 4)
            for expression in some_expressions(schema, chooser, 60):
                told = words_told(schema, expression, 4)
                for word in words:
                    self.assertIs(has_word(schema, expression, word), word in told, (expression, word))

    def test_long_words(self):
        long = ("n", "a", "n", "b") * 10000 + ("n",)
        pairs = ("star", ("then", A, B))
        self.same([has_word(ONE, pairs, long), has_word(ONE, pairs, long[:-2]), has_word(ONE, pairs, long[2:])],
                  [True, False, False])
        one = ("or", pairs, ("then", pairs, A))
        self.same([has_word(ONE, one, long), has_word(ONE, one, long[:-2]), has_word(ONE, one, long[2:])],
                  [True, True, False])

    def test_the_reckoning_of_the_tests_tells_points_apart(self):
        self.same(net_told(ONE, ("then", A, B)), ([(0, "a", 2), (2, "b", 1)], []))


class Texts(Case):

    def test_texts_by_hand(self):
        told = (
            (N, ":n"), (A, "a"), (("then", A, N), "a :n"), (("or", N, A), ":n|a"), (("star", A), "a*"),
            (("plus", ("star", A)), "a*+"), (("maybe", ("maybe", N)), ":n??"), (("star", ("then", A, B)), "(a b)*"),
            (("plus", ("or", A, B)), "(a|b)+"), (("then", ("then", A, B), A), "a b a"),
            (("then", A, ("then", B, A)), "a (b a)"), (("or", ("or", A, B), A), "a|b|a"),
            (("or", A, ("or", B, A)), "a|(b|a)"), (("then", ("or", A, B), A), "(a|b) a"),
            (("then", A, ("or", A, B)), "a (a|b)"), (("or", ("then", A, B), A), "a b|a"),
            (("or", A, ("then", B, A)), "a|b a"), (("then", ("star", A), ("plus", B)), "a* b+"),
            (("star", ("maybe", ("then", A, ("or", A, ("maybe", B))))), "(a (a|b?))?*"),
        )
        for expression, text in told:
            self.same(write(ONE, expression), text)
            self.same(read(ONE, text), expression)

    def test_each_written_text_is_read_as_its_expression(self):
        chooser = random.Random(9)
        for schema in ALL:
            for expression in some_expressions(schema, chooser, 300):
                self.same(read(schema, write(schema, expression)), expression)

    def test_without_any_of_its_parentheses_a_text_is_read_in_another_way(self):
        chooser = random.Random(3)
        for schema in ALL:
            for expression in some_expressions(schema, chooser, 300):
                text = write(schema, expression)
                for at, sign in enumerate(text):
                    if sign == "(":
                        depth, end = 1, at
                        while depth:
                            end += 1
                            depth += {"(": 1, ")": -1}.get(text[end], 0)
                        bare = text[:at] + " " + text[at + 1:end] + " " + text[end + 1:]
                        self.assertNotEqual(read(schema, bare), expression)

    def test_blanks_and_further_parentheses(self):
        chooser = random.Random(8)
        for schema in ALL:
            for expression in some_expressions(schema, chooser, 100):
                self.same(read(schema, loose_text(expression, chooser)), expression)

    def test_blanks_everywhere(self):
        wide = "  (  knows  |  :city  )  *  lives  ?  +  road   "
        tight = "(knows|:city)*lives?+road"
        self.same(read(ROADS, wide), read(ROADS, tight))
        self.same(write(ROADS, read(ROADS, tight)), "(knows|:city)* lives?+ road")

    def test_no_blank_within_a_colon_and_its_kind(self):
        for text, index in ((": city", 0), ("road : city", 5), ("road:", 4), (":", 0), ("road|:)", 5), ("::city", 0)):
            self.refused(ParseError, read, ROADS, text, kept=index)
        self.same(read(ROADS, "road:city:city"), read(ROADS, "road :city :city"))

    def test_many_parentheses(self):
        self.same(read(ROADS, "(" * 1998 + "road" + ")" * 1998), ("label", "road"))
        self.refused(ParseError, read, ROADS, "(" * 4000, kept=4000)
        self.refused(ParseError, read, ROADS, ")" * 4000, kept=0)
        self.refused(ParseError, read, ROADS, "(" * 1990 + "road" + ")" * 1991, kept=1990 + 4 + 1990)
        self.refused(ParseError, read, ROADS, "(" * 1990 + "road" + ")" * 1989, kept=1990 + 4 + 1989)

    def test_parse_errors(self):
        told = (
            ("", 0), (" ", 1), ("     ", 5), ("()", 1), ("( )", 2), (")", 0), ("road)", 4), ("(road", 5), ("(road ", 6),
            ("|road", 0), ("road|", 5), ("road| ", 6), ("road||road", 5), ("*", 0), ("+road", 0), (" ?", 1),
            ("(*road)", 1), ("road|*", 5), ("road (|road)", 6), ("(road|)", 6), ("road (road)) road", 11),
            ("knowslives", 0), ("road knowslives road", 5), ("roads", 0), ("roa", 0), ("city", 0), (":road", 0),
            (":citycity", 0), ("road city", 5), ("road Road", 5), ("Road", 0), ("roadR", 4), ("road1", 4), ("road_", 4),
            ("road.road", 4), ("road\nroad", 4), ("\nroad", 0), ("road\t", 4), ("road &", 5), ("road,road", 4),
            ("road road [", 10), ("a", 0), ("road a)", 5), ("((road)", 7), ("road(", 5), ("road:city(", 10), ("%", 0),
            ("road -> city", 5), ("road**+?:city?|", 15), ("x" * 4000, 0), ("road " + "x" * 3995, 5),
        )
        for text, index in told:
            with self.subTest(text=text):
                self.refused(ParseError, read, ROADS, text, kept=index)

    def test_the_first_wrong_sign_decides(self):
        self.refused(ParseError, read, ROADS, "road ) ( |", kept=5)
        self.refused(ParseError, read, ROADS, "road |) city", kept=6)
        self.refused(ParseError, read, ROADS, "road city )", kept=5)

    def test_each_sign_alone_and_behind_a_label(self):
        for code in list(range(32, 127)) + [10]:
            sign = chr(code)
            if sign not in " (ab":
                self.refused(ParseError, read, ONE, sign, kept=0)
            if sign not in " *+?|(ab:":
                self.refused(ParseError, read, ONE, "a " + sign, kept=2)
            if "a" <= sign <= "z":
                self.refused(ParseError, read, ONE, "a" + sign, kept=0)
        self.refused(ParseError, read, ONE, " ", kept=1)
        self.refused(ParseError, read, ONE, "(", kept=1)
        self.refused(ParseError, read, ONE, "a |", kept=3)
        self.refused(ParseError, read, ONE, "a (", kept=3)
        self.refused(ParseError, read, ONE, "a :", kept=2)

    def test_names_of_another_schema(self):
        other = ONE.renamed({"a": "n", "n": "a"})
        self.same([read(ONE, "a :n"), read(other, "n :a")], [("then", A, N), ("then", ("label", "n"), ("kind", "a"))])
        self.refused(ParseError, read, other, "b a :n", kept=2)
        self.refused(ParseError, read, ONE, "n :a", kept=0)

    def test_too_many_parts(self):
        for many in (39, 40, 41, 42, 1999):
            texts = ["a" + "*" * (many - 1), "(" + "b" + "?" * (many - 1) + ")"]
            if many % 2:
                texts += [" ".join(["a"] * (many // 2 + 1)), "|".join([":n"] * (many // 2 + 1))]
            for text in texts:
                if many <= MAX_PARTS:
                    self.same(write(ONE, read(ONE, text)), text.strip("()"))
                else:
                    self.refused(TooMany, read, ONE, text, kept=40)
        self.refused(TooMany, read, FULL, " ".join(["la"] * 1333), kept=40)

    def test_too_many_parts_stand_behind_all_other_errors(self):
        long = " ".join(["a"] * 50)
        told = ((long + ")", 99), (long + " c", 100), ("(" + long, 100), (long + "|", 100), (long + "|*", 100))
        for text, index in told:
            self.refused(ParseError, read, ONE, text, kept=index)
        self.refused(TooMany, read, ONE, long, kept=40)
        self.refused(TooMany, read, ONE, "(((" + long + ")))", kept=40)

    def test_texts_that_are_none(self):
        for text in STRANGE + (7, (), ("a",), ["a"], ONE, A):
            if not isinstance(text, str):
                self.refused(InvalidOperation, read, ONE, text)
        for text in ("", "Road", "n\n", "x" * 4000):
            self.refused(ParseError, read, ONE, text, kept=0)


def loose_text(expression, chooser):
    """A text of the expression with blanks and parentheses that are not needed."""
    def blanks():
        return " " * chooser.randrange(3)

    sort = expression[0]
    if sort in ("kind", "label"):
        text = (":" if sort == "kind" else "") + expression[1]
    elif sort in ("or", "then"):
        one, other = [loose_text(inner, chooser) for inner in expression[1:]]
        text = f"({one}){blanks()}{'|' if sort == 'or' else ''}{blanks()}({other})"
    else:
        text = f"({loose_text(expression[1], chooser)}){blanks()}" + {"star": "*", "plus": "+", "maybe": "?"}[sort]
    if chooser.random() < 0.3:
        text = f"({blanks()}{text}{blanks()})"
    return blanks() + text + blanks()


class Wrong(Case):

    def test_first_wrong_argument_decides(self):
        schemas, expressions = (InvalidSchema, NO_SCHEMAS), (InvalidExpression, NO_EXPRESSIONS)
        self.first_wrong_decides(is_expression, (ONE, A), (schemas, (None, ())))
        self.first_wrong_decides(has_word, (ONE, A, ("n",)), (schemas, expressions, (InvalidWord, NO_WORDS)))
        self.first_wrong_decides(write, (ONE, A), (schemas, expressions))
        self.first_wrong_decides(read, (ONE, "a"), (schemas, (InvalidOperation, (7, None, True, ["a"], A, {}, ONE))))

    def test_no_schema_ahead_of_what_cannot_be_read(self):
        for schema in NO_SCHEMAS:
            for text in ("a", "", ")", "a " * 50, 7):
                self.refused(InvalidSchema, read, schema, text)
            for value in (A, 7, ()):
                self.refused(InvalidSchema, is_expression, schema, value)

    def test_expressions_and_words_of_another_schema(self):
        self.refused(InvalidExpression, has_word, ROADS, A, ("city",))
        self.refused(InvalidWord, has_word, ROADS, ("label", "road"), ("n",))
        self.refused(InvalidExpression, write, ROADS, ("star", A))
        self.refused(InvalidExpression, write, ONE, ("star", row_of("or", 41)))

    def test_errors_are_no_expressions(self):
        self.same(is_expression(ONE, InvalidNumber(1)), False)
