"""Schemas: what is one, what it tells, and what is made of it."""
import copy

from tests.helpers import MIXED, ONE, ROADS, STRANGE, Case
from whichwalks.base.schemas import MAX_KINDS, MAX_LABELS, Schema
from whichwalks.errors import InvalidName, InvalidNumber, InvalidOperation, InvalidSchema, UnknownName

KINDS = ("a", "b", "c", "d", "e", "f", "g")
ROAD = (("city",), ("city",), True)
ALL = (ONE, ROADS, MIXED)


def content(schema):
    """All that a schema was made of."""
    return schema.kinds, {label: schema[label] for label in schema.labels}


def many_labels(number):
    return {"l" + letter: (("a",), ("a",), False) for letter in "abcdefghi"[:number]}


class Made(Case):

    def refused_labels(self, labels, error=InvalidSchema, kinds=("city", "person")):
        with self.subTest(labels=labels):
            self.refused(error, Schema, kinds, labels)

    def test_numbers_of_kinds(self):
        for number in range(8):
            labels = {"x": (KINDS[:1], KINDS[:1], False)}
            if 1 <= number <= MAX_KINDS:
                self.same(Schema(KINDS[:number], labels).kinds, KINDS[:number])
            else:
                self.refused(InvalidSchema, Schema, KINDS[:number], labels)

    def test_numbers_of_labels(self):
        for number in range(10):
            if 1 <= number <= MAX_LABELS:
                self.same(len(Schema(("a",), many_labels(number))), number)
            else:
                self.refused(InvalidSchema, Schema, ("a",), many_labels(number))

    def test_kinds_that_are_no_set(self):
        for kinds in STRANGE + (("b", "a"), ("a", "a"), ("a", "B"), ("a", ""), "a", 7, (), ("abcdefghi",), ONE):
            with self.subTest(kinds=kinds):
                self.refused(InvalidSchema, Schema, kinds, {"x": (("a",), ("a",), False)})

    def test_labels_that_are_no_dict(self):
        for labels in STRANGE + (("x",), [("x", ROAD)], "x", 7, (("x", ROAD),), ONE):
            if not isinstance(labels, dict):
                self.refused_labels(labels)

    def test_keys_that_are_no_names(self):
        for key in ("Road", "", "ninemarks", "a b", 1, True, None, (), ("a",), "n\n", 10 ** 60, InvalidNumber(1)):
            self.refused_labels({key: ROAD}, InvalidName)
            self.refused_labels({"road": ROAD, key: ROAD}, InvalidName)
            self.refused_labels({"road": 7, key: None}, InvalidName)
            self.refused_labels({"city": ROAD, key: ROAD}, InvalidName)
        self.refused_labels({**many_labels(9), "A": 0}, InvalidName)

    def test_kinds_are_checked_ahead_of_labels(self):
        for labels in ({"Road": ROAD}, {}, 7, {"road": 7}, {1: 1}):
            self.refused_labels(labels, InvalidSchema, kinds=("person", "city"))
            self.refused_labels(labels, InvalidSchema, kinds=())
            self.refused_labels(labels, InvalidSchema, kinds=None)

    def test_a_label_called_like_a_kind(self):
        self.refused_labels({"city": ROAD})
        self.refused_labels({"person": ROAD, "road": ROAD})
        self.refused_labels({"road": ROAD, "person": ROAD})

    def test_triples_that_are_none(self):
        for triple in STRANGE + (
            ("city",), (), "abc", 7, list(ROAD), ROAD[:2], ROAD + (True,), (ROAD,), ONE, (("city",), True, ("city",)),
        ):
            self.refused_labels({"road": triple})
            self.refused_labels({"path": ROAD, "road": triple, "street": ROAD})

    def test_sources_and_targets(self):
        wrong = STRANGE + (
            (), ("person", "city"), ("city", "city"), ("town",), ("city", "town"), ("city", "road"), "city",
            ["city"], {"city": True}, ("city", 1), ONE,
        )
        for ends in wrong:
            self.refused_labels({"road": (ends, ("city",), False)})
            self.refused_labels({"road": (("city",), ends, False)})

    def test_truths(self):
        for truth in STRANGE + (0, 1, "True", "loops", (), ONE):
            if truth is not True and truth is not False:
                self.refused_labels({"road": (("city",), ("city",), truth)})

    def test_loops_need_a_common_kind(self):
        self.refused_labels({"road": (("city",), ("person",), True)})
        self.same(Schema(("c", "p"), {"r": (("c",), ("p",), False)}).loops, ())
        self.same(Schema(("c", "p"), {"r": (("c",), ("c", "p"), True)}).loops, ("r",))
        self.same(Schema(("c", "p"), {"r": (("c",), ("c", "p"), False)}).loops, ())

    def test_it_keeps_just_what_was_passed(self):
        for kinds, labels in (content(schema) for schema in ALL):
            backwards = {label: labels[label] for label in reversed(list(labels))}
            before = copy.deepcopy(backwards)
            schema = Schema(kinds, backwards)
            self.same(backwards, before)
            self.same(content(schema), (kinds, labels))
            self.same(schema.labels, tuple(sorted(labels)))
            self.assertTrue(schema == Schema(kinds, labels))

    def test_a_dict_that_changes_later_changes_nothing(self):
        labels = {"road": ROAD, "way": (("city",), ("city",), False)}
        schema = Schema(("city",), labels)
        before = content(schema)
        labels["way"] = ROAD
        del labels["road"]
        labels["Other"] = 7
        self.same(content(schema), before)
        self.same((schema.loops, schema.labels, len(schema)), (("road",), ("road", "way"), 2))
        self.same(list(schema.steps()), [("city", "road", "city"), ("city", "way", "city")])
        self.same(schema.turned() == schema, True)


class Told(Case):

    def test_properties(self):
        self.same((MIXED.kinds, MIXED.labels, MIXED.loops), (("k", "m", "s"), ("go", "in", "up"), ("go",)))
        self.same((ONE.kinds, ONE.labels, ONE.loops), (("n",), ("a", "b"), ("a",)))
        self.same(ONE.with_loops(("a", "b")).loops, ("a", "b"))
        for name in ("kinds", "labels", "loops"):
            with self.assertRaises(AttributeError):
                setattr(ONE, name, ())

    def test_triples(self):
        self.same(ROADS["road"], ROAD)
        self.same(ROADS["knows"], (("person",), ("person",), False))
        for value in STRANGE + ("city", "person", "town", 0, 1, ("road",), (), slice(0, 1), ROADS):
            with self.subTest(value=value):
                self.refused(UnknownName, lambda: ROADS[value], kept=value)

    def test_contained(self):
        for name in ("city", "person", "knows", "lives", "road"):
            self.same(name in ROADS, True)
        for value in STRANGE + ("town", "roa", "roads", 0, ("road",), ROAD, (), ROADS):
            self.same(value in ROADS, False)

    def test_lengths_and_texts(self):
        self.same([len(schema) for schema in ALL], [2, 3, 3])
        self.same(
            [str(schema) for schema in ALL],
            ["schema of 1 kinds, 2 labels", "schema of 2 kinds, 3 labels", "schema of 3 kinds, 3 labels"],
        )
        self.same(str(Schema(("n",), {"a": (("n",), ("n",), False)})), "schema of 1 kinds, 1 labels")

    def test_equal(self):
        for schema in ALL:
            again = Schema(*content(schema))
            self.same([schema == again, schema != again, again == schema], [True, False, True])
            self.same([schema == schema, schema != schema], [True, False])

    def test_unequal(self):
        kinds, labels = content(MIXED)
        others = (
            Schema(("k", "m", "s", "t"), labels),
            Schema(kinds, {label: labels[label] for label in ("go", "in")}),
            Schema(kinds, {**labels, "go": (("k", "m"), ("m", "s"), False)}),
            Schema(kinds, {**labels, "go": (("m",), ("m", "s"), True)}),
            Schema(kinds, {**labels, "go": (("k", "m"), ("m",), True)}),
            Schema(kinds, {"on": labels["go"], "in": labels["in"], "up": labels["up"]}),
            Schema(("k", "m", "r"), {label: (("k",), ("m",), False) for label in labels}),
            ONE, ROADS,
        )
        for other in others:
            self.same([MIXED == other, MIXED != other, other == MIXED, other != MIXED], [False, True, False, True])

    def test_equality_accepts_every_value(self):
        for value in STRANGE + (7, "n", content(ONE), list(content(ONE)), ()):
            self.same([ONE == value, ONE != value, value == ONE, value != ONE], [False, True, False, True])

    def test_fits_and_steps(self):
        for schema in ALL:
            names = schema.kinds + schema.labels + ("x",)
            fitting = []
            for one in names:
                for label in names:
                    for other in names:
                        wanted = False
                        if label in schema.labels:
                            sources, targets, _ = schema[label]
                            wanted = one in sources and other in targets
                        self.same(schema.fits(one, label, other), wanted)
                        if wanted:
                            fitting.append((one, label, other))
            self.same(list(schema.steps()), sorted(fitting))
        self.same([MIXED.fits("k", "go", "s"), MIXED.fits("s", "go", "k"), MIXED.fits("k", "in", "k")],
                  [True, False, False])

    def test_fits_of_values_that_are_none(self):
        for value in STRANGE + (0, 1, "x", ("city",), (), ROADS):
            for triple in (
                (value, "road", "city"), ("city", value, "city"), ("city", "road", value), (value, value, value),
            ):
                self.same(ROADS.fits(*triple), False)

    def test_steps_is_a_generator(self):
        steps = MIXED.steps()
        self.assertIs(iter(steps), steps)
        self.same(next(steps), ("k", "go", "m"))
        self.same(next(MIXED.steps()), ("k", "go", "m"))
        self.same(len(list(steps)), len(list(MIXED.steps())) - 1)

    def test_no_iteration(self):
        for schema in ALL:
            for call in (iter, list, tuple, sorted, set, enumerate, lambda one: [*one]):
                with self.assertRaises(TypeError):
                    call(schema)


class Derived(Case):

    def setUp(self):
        self.before = [content(schema) for schema in ALL]

    def tearDown(self):
        self.same([content(schema) for schema in ALL], self.before)

    def test_turned(self):
        self.same(content(MIXED.turned()), (("k", "m", "s"), {
            "go": (("m", "s"), ("k", "m"), True),
            "in": (("k",), ("s",), False),
            "up": (("k", "m", "s"), ("k", "s"), False),
        }))
        for schema in ALL:
            self.same(schema.turned().turned() == schema, True)
            self.same(
                list(schema.turned().steps()),
                sorted((other, label, one) for one, label, other in schema.steps()),
            )
        self.same([ONE.turned() == ONE, ROADS.turned() == ROADS, ROADS.turned().loops], [True, False, ("road",)])

    def test_with_loops(self):
        for labels in ((), ("go",), ("up",), ("go", "up")):
            kinds, triples = content(MIXED.with_loops(labels))
            self.same(kinds, MIXED.kinds)
            self.same(triples, {label: MIXED[label][:2] + (label in labels,) for label in MIXED.labels})
            self.same(MIXED.with_loops(labels).loops, labels)
        self.same(MIXED.with_loops(("up",)).with_loops(("go",)) == MIXED, True)

    def test_with_loops_of_what_is_no_set_of_such_labels(self):
        wrong = STRANGE + (
            ("in",), ("go", "in"), ("up", "go"), ("go", "go"), ("k",), ("go", "k"), ("x",), "go", ["go"], {"go": True},
            ("go", 1), 7, MIXED,
        )
        for labels in wrong:
            with self.subTest(labels=labels):
                self.refused(InvalidOperation, MIXED.with_loops, labels)

    def test_renamed(self):
        names = {"k": "z", "go": "a", "up": "up"}
        passed = dict(names)
        self.same(content(MIXED.renamed(passed)), (("m", "s", "z"), {
            "a": (("m", "z"), ("m", "s"), True),
            "in": (("s",), ("z",), False),
            "up": (("s", "z"), ("m", "s", "z"), False),
        }))
        self.same(passed, names)
        self.same(MIXED.renamed({}) == MIXED, True)
        self.same(MIXED.renamed({name: name for name in ("k", "s", "in")}) == MIXED, True)

    def test_renamed_with_names_exchanged(self):
        self.same(content(MIXED.renamed({"k": "s", "s": "k"})), (("k", "m", "s"), {
            "go": (("m", "s"), ("k", "m"), True),
            "in": (("k",), ("s",), False),
            "up": (("k", "s"), ("k", "m", "s"), False),
        }))
        self.same(content(MIXED.renamed({"go": "in", "in": "go"})), (("k", "m", "s"), {
            "go": (("s",), ("k",), False),
            "in": (("k", "m"), ("m", "s"), True),
            "up": (("k", "s"), ("k", "m", "s"), False),
        }))
        # A kind and a label can exchange their names, too.
        self.same(content(ONE.renamed({"n": "a", "a": "n"})), (("a",), {
            "b": (("a",), ("a",), False),
            "n": (("a",), ("a",), True),
        }))

    def test_renamed_in_rings_of_names(self):
        ring = {"k": "m", "m": "s", "s": "k"}
        once = MIXED.renamed(ring)
        self.same(once["go"], (("m", "s"), ("k", "s"), True))
        self.same(once["in"], (("k",), ("m",), False))
        self.same([once == MIXED, once.renamed(ring).renamed(ring) == MIXED], [False, True])
        mixed = {"k": "go", "go": "in", "in": "k"}
        self.same(MIXED.renamed(mixed).renamed(mixed).renamed(mixed) == MIXED, True)

    def test_renamed_there_and_back(self):
        for names in ({"k": "zz"}, {"go": "k", "k": "go"}, {"m": "a", "up": "b"}, {"s": "in", "in": "on"}):
            back = {new: old for old, new in names.items()}
            self.same(MIXED.renamed(names).renamed(back) == MIXED, True)
            self.same(MIXED.renamed(names).turned() == MIXED.turned().renamed(names), True)

    def test_renamed_by_what_is_no_such_dict(self):
        wrong = STRANGE + (
            (("k", "z"),), [("k", "z")], "k", 7, ("k",), {"x": "y"}, {"k": "z", "x": "y"}, {1: "z"}, {True: "z"},
            {None: "z"}, {("k",): "z"}, {"k": "Z"}, {"k": ""}, {"k": 1}, {"k": None}, {"k": True}, {"k": ("z",)},
            {"k": ["z"]}, {"k": "ninemarks"}, {"k": "z", "m": 7}, {"k": {}}, MIXED, {"k": MIXED},
        )
        for names in wrong:
            if names != {}:
                with self.subTest(names=names):
                    self.refused(InvalidOperation, MIXED.renamed, names)

    def test_renamed_so_that_names_collide(self):
        for names in (
            {"k": "m"}, {"k": "go"}, {"go": "in"}, {"go": "k"}, {"k": "z", "m": "z"}, {"k": "z", "go": "z"},
            {"go": "z", "in": "z"}, {"k": "m", "m": "s"}, {"k": "m", "m": "k", "s": "k"},
        ):
            with self.subTest(names=names):
                self.refused(InvalidOperation, MIXED.renamed, names)

    def test_no_shared_state(self):
        # What is derived from a derived schema tells nothing of the way there.
        self.same(MIXED.with_loops(()).turned() == MIXED.turned().with_loops(()), True)
        self.same(MIXED.turned() == MIXED.turned(), True)
        self.same(str(MIXED.renamed({"k": "z"})), str(MIXED))
