"""Every example of the document, with just the answers that it shows, and the interface that it lists."""
import doctest
import inspect
import pathlib

from tests.helpers import ONE, ROADS, Case
from whichwalks import errors
from whichwalks.base import names, schemas, words

HOME = ("person", "knows", "person", "lives", "city")

EXAMPLES = (
    (
        'is_integer(-3), is_integer(True), is_name("road"), is_name("Road"), is_set(("a", "b")), is_set(("b", "a")),'
        ' is_set(())',
        "(True, False, True, False, True, False, True)",
    ),
    (
        'ROADS.kinds, ROADS.loops, ROADS["lives"], len(ROADS), str(ROADS), ROADS.fits("person", "lives", "city"),'
        ' "city" in ROADS',
        "(('city', 'person'), ('road',), (('person',), ('city',), False), 3, 'schema of 2 kinds, 3 labels', True,"
        " True)",
    ),
    (
        'list(ROADS.steps()), ROADS.turned()["lives"], ROADS.with_loops(("knows",)).loops,'
        ' ONE.renamed({"a": "b", "b": "a"}).loops',
        "([('city', 'road', 'city'), ('person', 'knows', 'person'), ('person', 'lives', 'city')],"
        " (('city',), ('person',), False), ('knows',), ('b',))",
    ),
    (
        'is_word(ROADS, HOME), is_word(ROADS, ("city", "lives", "person")), edges_of(ROADS, HOME)[1],'
        ' part(ROADS, HOME, 1, 2), part(ROADS, HOME, 0, 0)',
        "(True, False, ('person', 'lives', 'city'), ('person', 'lives', 'city'), ('person',))",
    ),
    (
        'is_ring(ONE, ("n", "a", "n")), is_ring(ONE, ("n", "b", "n")), is_ring(ONE, ("n", "b", "n", "b", "n")),'
        ' is_ring(ONE, ("n",))',
        "(True, False, True, False)",
    ),
    (
        'joined(ROADS, HOME, ("city", "road", "city"))[-3:], turned(ROADS, HOME), len(words_of(ONE, 3)),'
        ' words_of(ROADS, 0)',
        "(('city', 'road', 'city'), ('city', 'lives', 'person', 'knows', 'person'), 8, (('city',), ('person',)))",
    ),
)

FUNCTIONS = (
    (names, ("is_integer(value)", "is_name(value)", "is_set(value)")),
    (
        words,
        (
            "is_word(schema, value)", "is_ring(schema, word)", "edges_of(schema, word)", "joined(schema, one, other)",
            "turned(schema, word)", "part(schema, word, first, last)", "words_of(schema, size)",
        ),
    ),
)

METHODS = (
    "__init__(self, kinds, labels)", "fits(self, one, label, other)", "steps(self)", "turned(self)",
    "with_loops(self, labels)", "renamed(self, names)",
)


class Document(Case):

    def test_examples(self):
        known = {"ONE": ONE, "ROADS": ROADS, "HOME": HOME}
        for module in (names, schemas, words):
            known.update(vars(module))
        for asked, shown in EXAMPLES:
            with self.subTest(asked=asked):
                self.assertEqual(repr(eval(asked, dict(known))), shown)

    def test_example_of_a_label_that_cannot_loop(self):
        self.refused(errors.InvalidOperation, ROADS.with_loops, ("lives",))

    def test_functions_stand_in_their_files(self):
        for module, listed in FUNCTIONS:
            for shape in listed:
                function = getattr(module, shape.partition("(")[0])
                self.assertEqual(function.__name__ + str(inspect.signature(function)), shape)
                self.assertEqual(function.__module__, module.__name__)

    def test_methods_stand_in_their_class(self):
        own = vars(schemas.Schema)
        self.assertEqual(schemas.Schema.__module__, "whichwalks.base.schemas")
        for shape in METHODS:
            name = shape.partition("(")[0]
            self.assertEqual(name + str(inspect.signature(own[name])), shape)
        for name in ("__getitem__", "__contains__", "__len__", "__eq__", "__str__", "__iter__"):
            self.assertIn(name, own)
        for name in ("kinds", "labels", "loops"):
            self.assertIsInstance(own[name], property)

    def test_examples_of_the_readme(self):
        path = pathlib.Path(__file__).resolve().parent.parent / "README.md"
        text = path.read_text(encoding="utf-8").replace("```", "")
        asked = doctest.DocTestParser().get_doctest(text, {}, "README", "README.md", 0)
        self.assertGreater(len(asked.examples), 0)
        runner = doctest.DocTestRunner(verbose=False)
        self.assertEqual(runner.run(asked).failed, 0)

    def test_constants(self):
        self.same((names.MAX_LETTERS, schemas.MAX_KINDS, schemas.MAX_LABELS, words.MAX_WORDS), (8, 6, 8, 20000))
