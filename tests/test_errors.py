"""The errors: their classes, what they keep, and their texts."""
from tests.helpers import KEPT, ROADS, STRANGE, Case
from whichwalks import errors

BUILTIN = (
    Exception, ValueError, TypeError, LookupError, IndexError, KeyError, ArithmeticError, OverflowError,
    ZeroDivisionError, RuntimeError, AttributeError, AssertionError, StopIteration, UnicodeError,
)

# The direct base of each class, and the builtin classes above it that catch it, too.
BASES = {
    "WalkError": (ValueError, (ValueError, Exception)),
    "InvalidName": (errors.WalkError, (ValueError, Exception)),
    "InvalidSchema": (errors.WalkError, (ValueError, Exception)),
    "InvalidWord": (errors.WalkError, (ValueError, Exception)),
    "InvalidExpression": (errors.WalkError, (ValueError, Exception)),
    "InvalidQuestion": (errors.WalkError, (ValueError, Exception)),
    "InvalidGraph": (errors.WalkError, (ValueError, Exception)),
    "InvalidOperation": (errors.WalkError, (ValueError, Exception)),
    "ParseError": (errors.WalkError, (ValueError, Exception)),
    "InvalidNumber": (IndexError, (IndexError, LookupError, Exception)),
    "UnknownName": (KeyError, (KeyError, LookupError, Exception)),
    "TooMany": (OverflowError, (OverflowError, ArithmeticError, Exception)),
    "NothingToUndo": (LookupError, (LookupError, Exception)),
    "Missing": (ArithmeticError, (ArithmeticError, Exception)),
}


def own_classes():
    return {name: value for name, value in vars(errors).items() if isinstance(value, type)}


def caught_by(error, catcher):
    try:
        raise error
    except catcher:
        return True
    except Exception:
        return False


class Errors(Case):

    def test_there_are_just_these(self):
        self.assertEqual(sorted(own_classes()), sorted(BASES))
        for cls in own_classes().values():
            self.assertEqual(cls.__module__, "whichwalks.errors")

    def test_each_has_just_its_base(self):
        for name, (base, _) in BASES.items():
            self.assertEqual(getattr(errors, name).__bases__, (base,), name)

    def test_each_is_caught_by_its_own_class_and_those_above_only(self):
        own = own_classes()
        for name, (base, above) in BASES.items():
            for catcher in tuple(own.values()) + BUILTIN:
                wanted = catcher in (own[name], base) + above
                with self.subTest(error=name, catcher=catcher.__name__):
                    self.assertIs(caught_by(own[name]("n"), catcher), wanted)

    def test_each_keeps_what_it_was_made_with(self):
        for cls, attribute in KEPT.items():
            made = [(value, cls(value)) for value in STRANGE + (0, 7, "x", (0, "knows", 1), ROADS)]
            for value, error in made:
                self.assertIs(getattr(error, attribute), value)

    def test_classes_keep_under_their_own_name_only(self):
        for cls, attribute in KEPT.items():
            self.assertEqual(vars(cls(3)), {attribute: 3})

    def test_the_others_take_a_message(self):
        for name, cls in own_classes().items():
            if cls not in KEPT:
                self.assertEqual(str(cls("why it is wrong")), "why it is wrong", name)

    def test_texts_are_those_of_what_is_kept(self):
        for value in STRANGE + (0, -7, "x", "it's", ("a", 1), (0,)):
            self.assertEqual(str(errors.InvalidNumber(value)), repr(value))
            self.assertEqual(str(errors.UnknownName(value)), repr(value))
        self.assertEqual(str(errors.InvalidNumber("x")), "'x'")
        self.assertEqual(str(errors.UnknownName("x")), "'x'")
        self.assertEqual(str(errors.InvalidNumber(True)), "True")
