"""Words: what is one, its parts, what is made of it, and all words of a size."""
import itertools

from tests.helpers import FULL, HOME, JUST, MIXED, MORE, NO_SCHEMAS, NO_WORDS, ONE, ROADS, STRANGE, Case
from whichwalks.base.schemas import Schema
from whichwalks.base.words import MAX_WORDS, edges_of, is_ring, is_word, joined, part, turned, words_of
from whichwalks.errors import InvalidNumber, InvalidOperation, InvalidSchema, InvalidWord, TooMany

ALL = (ONE, ROADS, MIXED)
LONG = ("k", "go", "m", "go", "s", "in", "k", "up", "k")

NO_SIZES = STRANGE + ("3", -1, 7, 400, (3,), (), [3], ONE)


def plainly_a_word(schema, value):
    """What the document says, step by step."""
    if not isinstance(value, tuple) or len(value) % 2 == 0 or value[0] not in schema.kinds:
        return False
    for at in range(1, len(value), 2):
        if value[at] not in schema.labels or value[at + 1] not in schema.kinds:
            return False
        sources, targets, _ = schema[value[at]]
        if value[at - 1] not in sources or value[at + 1] not in targets:
            return False
    return True


def all_words(schema, size):
    parts = [schema.kinds] + [schema.labels, schema.kinds] * size
    return tuple(sorted(value for value in itertools.product(*parts) if plainly_a_word(schema, value)))


def short_words(schema, size=3):
    return [word for edges in range(size + 1) for word in all_words(schema, edges)]


class Judged(Case):

    def test_all_short_words(self):
        for schema in ALL:
            names = schema.kinds + schema.labels
            for length in range(6 if len(names) < 6 else 4):
                for value in itertools.product(names, repeat=length):
                    self.same(is_word(schema, value), plainly_a_word(schema, value))

    def test_near_words(self):
        for schema in ALL:
            names = schema.kinds + schema.labels + ("x", None, 1, ("n",), [])
            for word in short_words(schema):
                self.same([is_word(schema, word), is_word(schema, list(word))], [True, False])
                for at in range(len(word)):
                    near = [word[:at] + word[at + 1:], word[:at] + word[at:at + 1] + word[at:]]
                    near += [word[:at] + (name,) + word[at + 1:] for name in names]
                    near += [word[:at] + (name,) + word[at:] for name in names]
                    for value in near:
                        self.same(is_word(schema, value), plainly_a_word(schema, value))

    def test_other_values(self):
        for value in NO_WORDS + (ONE, (ONE,), ("n", ONE, "n"), (("n",), "a", "n"), ("n", ["a"], "n"), ("n", {}, "n")):
            with self.subTest(value=value):
                self.same(is_word(ONE, value), False)

    def test_words_of_any_size(self):
        long = ("n", "a", "n", "b") * 20000
        self.same([is_word(ONE, long + ("n",)), is_word(ONE, long), is_word(ONE, long + ("a",))], [True, False, False])
        self.same(len(edges_of(ONE, long + ("n",))), 40000)

    def test_rings(self):
        rings = (
            (ONE, ("n", "a", "n")), (ONE, ("n", "b", "n", "b", "n")), (ONE, ("n", "a", "n", "a", "n", "b", "n")),
            (MIXED, ("m", "go", "m")), (MIXED, ("k", "up", "k", "up", "k")), (MIXED, LONG),
            (MIXED, ("k", "up", "s", "in", "k")), (ROADS, ("city", "road", "city")),
        )
        for schema, word in rings:
            self.same(is_ring(schema, word), True)
        no_rings = (
            (ONE, ("n",)), (ONE, ("n", "b", "n")), (MIXED, ("k", "up", "k")), (MIXED, ("k",)), (MIXED, LONG[:5]),
            (MIXED, ("k", "go", "m")), (ROADS, HOME), (ROADS, ("person", "knows", "person")), (MIXED, LONG[2:]),
        )
        for schema, word in no_rings:
            self.same(is_ring(schema, word), False)

    def test_all_short_rings(self):
        for schema in ALL:
            for word in short_words(schema):
                edges = len(word) // 2
                wanted = word[0] == word[-1] and (edges >= 2 or (edges == 1 and schema[word[1]][2] is True))
                self.same(is_ring(schema, word), wanted)


class Parts(Case):

    def test_edges(self):
        self.same(edges_of(ONE, ("n",)), ())
        self.same(edges_of(ROADS, HOME), (("person", "knows", "person"), ("person", "lives", "city")))
        self.same(edges_of(MIXED, LONG), (("k", "go", "m"), ("m", "go", "s"), ("s", "in", "k"), ("k", "up", "k")))

    def test_parts_between_all_two_places(self):
        for schema in ALL:
            for word in short_words(schema):
                places = len(word) // 2 + 1
                for first in range(places):
                    for last in range(first, places):
                        inner = part(schema, word, first, last)
                        self.same((inner[0], inner[-1]), (word[2 * first], word[2 * last]))
                        self.same(edges_of(schema, inner), edges_of(schema, word)[first:last])
        self.same([part(MIXED, LONG, 1, 3), part(MIXED, LONG, 4, 4)], [("m", "go", "s", "in", "k"), ("k",)])
        self.same(part(MIXED, LONG, 0, 4), LONG)

    def test_places_that_are_none(self):
        for place in NO_SIZES + (5, -5):
            with self.subTest(place=place):
                self.refused(InvalidNumber, part, MIXED, LONG, place, 4, kept=place)
                self.refused(InvalidNumber, part, MIXED, LONG, 0, place, kept=place)
        self.refused(InvalidNumber, part, ONE, ("n",), 0, 1, kept=1)
        self.refused(InvalidNumber, part, ONE, ("n", "a", "n"), True, 1, kept=True)
        self.refused(InvalidNumber, part, ONE, ("n", "a", "n"), 1, True, kept=True)
        self.refused(InvalidNumber, part, ONE, ("n", "a", "n"), 0, False, kept=False)

    def test_a_last_place_ahead_of_the_first_one(self):
        for first in range(1, 5):
            for last in range(first):
                self.refused(InvalidNumber, part, MIXED, LONG, first, last, kept=last)
        # The first place is none, too, so it decides.
        self.refused(InvalidNumber, part, MIXED, LONG, 7, 3, kept=7)

    def test_joined(self):
        self.same(joined(ONE, ("n",), ("n",)), ("n",))
        self.same(joined(ROADS, HOME, ("city",)), HOME)
        self.same(joined(ROADS, ("person",), HOME), HOME)
        for schema in ALL:
            words = short_words(schema, 2)
            for one in words:
                for other in words:
                    if one[-1] == other[0]:
                        both = joined(schema, one, other)
                        self.same(edges_of(schema, both), edges_of(schema, one) + edges_of(schema, other))
                        self.same((both[0], both[-1]), (one[0], other[-1]))
                    else:
                        self.refused(InvalidOperation, joined, schema, one, other)

    def test_parts_join_to_the_whole(self):
        for place in range(5):
            self.same(joined(MIXED, part(MIXED, LONG, 0, place), part(MIXED, LONG, place, 4)), LONG)

    def test_turned(self):
        self.same(turned(ONE, ("n",)), ("n",))
        self.same(turned(MIXED, LONG), ("k", "up", "k", "in", "s", "go", "m", "go", "k"))
        for schema in ALL:
            back = schema.turned()
            for word in short_words(schema):
                other = turned(schema, word)
                self.same(is_word(back, other), True)
                self.same(turned(back, other), word)
                self.same(is_ring(back, other), is_ring(schema, word))
        self.same(is_word(ROADS, turned(ROADS, HOME)), False)


class Sizes(Case):

    def test_all_words_of_small_sizes(self):
        for schema in ALL:
            for size in range(5):
                self.same(words_of(schema, size), all_words(schema, size))

    def test_sizes_to_six(self):
        self.same([len(words_of(ONE, size)) for size in range(7)], [1, 2, 4, 8, 16, 32, 64])
        # All edges are roads, or none is, or "lives" stands at one of the places between.
        self.same([len(words_of(ROADS, size)) for size in range(7)], [2, 3, 4, 5, 6, 7, 8])
        for schema in ALL:
            for size in (5, 6):
                words = words_of(schema, size)
                self.same(words, tuple(sorted(words)))
                self.same(sorted(set(words)), sorted(
                    shorter + (label, other)
                    for shorter in words_of(schema, size - 1)
                    for one, label, other in schema.steps()
                    if one == shorter[-1]
                ))

    def test_words_that_end_early(self):
        chain = Schema(("a", "b", "c"), {"x": (("a",), ("b",), False), "y": (("b",), ("c",), False)})
        self.same([words_of(chain, size) for size in range(1, 4)], [
            (("a", "x", "b"), ("b", "y", "c")), (("a", "x", "b", "y", "c"),), (),
        ])

    def test_wrong_sizes(self):
        for size in NO_SIZES:
            with self.subTest(size=size):
                self.refused(InvalidNumber, words_of, ONE, size, kept=size)

    def test_just_as_many_as_can_be_told(self):
        words = words_of(JUST, 4)
        self.same([len(words), len(set(words)), MAX_WORDS], [20000, 20000, 20000])
        self.same(words, tuple(sorted(words)))
        self.assertTrue(all(is_word(JUST, word) and len(word) == 9 for word in words))

    def test_one_word_more_than_can_be_told(self):
        self.same(len(words_of(MORE, 3)), 2 * 10 ** 3 + 1)
        self.refused(TooMany, words_of, MORE, 4, kept=20000)

    def test_far_more_words_than_can_be_told(self):
        self.same([len(words_of(FULL, size)) for size in (0, 1, 2)], [6, 288, 13824])
        for size in (3, 4, 5, 6):
            self.refused(TooMany, words_of, FULL, size, kept=20000)

    def test_too_many_comes_last(self):
        for size in NO_SIZES:
            self.refused(InvalidNumber, words_of, FULL, size, kept=size)
        for schema in NO_SCHEMAS:
            self.refused(InvalidSchema, words_of, schema, 6)


class Wrong(Case):

    def test_first_wrong_argument_decides(self):
        schemas, words = (InvalidSchema, NO_SCHEMAS), (InvalidWord, NO_WORDS + (("person", "lives", "person"),))
        for call in (is_ring, edges_of, turned):
            self.first_wrong_decides(call, (ROADS, HOME), (schemas, words))
        self.first_wrong_decides(joined, (ROADS, HOME, ("city",)), (schemas, words, words))
        self.first_wrong_decides(
            part, (ROADS, HOME, 1, 2), (schemas, words, (InvalidNumber, NO_SIZES + (3,)), (InvalidNumber, NO_SIZES)),
        )
        self.first_wrong_decides(words_of, (ROADS, 2), (schemas, (InvalidNumber, NO_SIZES)))

    def test_judging_refuses_what_is_no_schema(self):
        for schema in NO_SCHEMAS:
            for value in (("n",), 7, ()):
                self.refused(InvalidSchema, is_word, schema, value)

    def test_words_of_another_schema(self):
        for call in (is_ring, edges_of, turned):
            self.refused(InvalidWord, call, ONE, HOME)
            self.refused(InvalidWord, call, ROADS.turned(), HOME)
        self.refused(InvalidWord, joined, ROADS, ("city", "road", "city"), ("n",))
        self.refused(InvalidWord, joined, ROADS, ("n",), HOME)
