"""Integers, names and sets of names."""
from tests.helpers import ONE, STRANGE, Case
from whichwalks.base.names import MAX_LETTERS, is_integer, is_name, is_set


class Integers(Case):

    def test_integers(self):
        for value in (0, 1, -1, 7, -7, 10 ** 59, 10 ** 60 - 1, -(10 ** 60 - 1)):
            self.assertIs(is_integer(value), True, value)

    def test_more_than_sixty_digits(self):
        self.assertEqual([len(str(10 ** 60 - 1)), len(str(10 ** 60))], [60, 61])
        for value in (10 ** 60, -(10 ** 60), 10 ** 100 - 1, -(10 ** 100 - 1)):
            self.assertIs(is_integer(value), False, value)

    def test_no_integers(self):
        for value in STRANGE + ("7", (7,), ONE, ("n",), "n"):
            self.assertIs(is_integer(value), False, value)


class Names(Case):

    def test_names(self):
        for value in ("a", "z", "n", "road", "abcdefgh", "z" * MAX_LETTERS):
            self.assertIs(is_name(value), True, value)

    def test_lengths(self):
        self.assertEqual([is_name("q" * size) for size in range(11)], [False] + 8 * [True] + 2 * [False])

    def test_each_other_sign(self):
        small = "abcdefghijklmnopqrstuvwxyz"
        for code in list(range(32, 127)) + [10]:
            sign = chr(code)
            wanted = sign in small
            for value in (sign, "a" + sign, sign + "a", "ro" + sign + "ad"):
                self.assertIs(is_name(value), wanted, value)

    def test_no_names(self):
        for value in STRANGE + (7, ("n",), ("a", "b"), ONE):
            self.assertIs(is_name(value), False, value)


class Sets(Case):

    def test_sets(self):
        many = tuple(sorted(first + second for first in "abcdef" for second in "abcdef"))
        for value in ((), ("a",), ("a", "b"), ("a", "aa", "b"), ("abcdefgh", "z"), many):
            self.assertIs(is_set(value), True, value)

    def test_order_and_names_twice(self):
        for value in (("b", "a"), ("a", "a"), ("a", "b", "b"), ("a", "c", "b"), ("b", "c", "a"), ("aa", "a")):
            self.assertIs(is_set(value), False, value)

    def test_what_is_no_name(self):
        for strange in STRANGE + (7, ("a",), ONE):
            for value in ((strange,), ("a", strange), (strange, "a"), ("a", strange, "b")):
                self.assertIs(is_set(value), False, value)

    def test_no_tuples(self):
        for value in STRANGE + (7, "ab", "a", ["a", "b"], {"a": "b"}, ONE):
            self.assertIs(is_set(value), False, value)
