"""Schemas: kinds of nodes, and labels of edges."""
from whichwalks.base.names import is_name, is_set
from whichwalks.errors import InvalidName, InvalidOperation, InvalidSchema, UnknownName

MAX_KINDS = 6
MAX_LABELS = 8


class Schema:
    """A set of kinds, and labels with their sources, targets and loops."""

    def __init__(self, kinds, labels):
        check_kinds(kinds)
        check_labels(kinds, labels)
        self._kinds = kinds
        self._labels = tuple(sorted(labels))
        self._triples = {label: labels[label] for label in self._labels}
        self._loops = tuple([label for label in self._labels if labels[label][2]])

    @property
    def kinds(self):
        """The set of the kinds."""
        return self._kinds

    @property
    def labels(self):
        """The set of the labels."""
        return self._labels

    @property
    def loops(self):
        """The set of the labels that can loop."""
        return self._loops

    def __getitem__(self, label):
        # Labels are sought in the tuple, because a value that is none can be unhashable.
        if label not in self._labels:
            raise UnknownName(label)
        return self._triples[label]

    def __contains__(self, value):
        return value in self._kinds or value in self._labels

    def __iter__(self):
        # Without this, Python would iterate over a class that has indexes.
        raise TypeError("a schema is not iterated over")

    def __len__(self):
        return len(self._labels)

    def __eq__(self, other):
        return isinstance(other, Schema) and self._kinds == other._kinds and self._triples == other._triples

    def __str__(self):
        return f"schema of {len(self._kinds)} kinds, {len(self._labels)} labels"

    def fits(self, one, label, other):
        """Whether the label fits from the one kind to the other one; False for values that are none."""
        if label not in self._labels:
            return False
        sources, targets, _ = self._triples[label]
        return one in sources and other in targets

    def steps(self):
        """Yield all triples (kind, label, kind) that fit, ascending."""
        for one in self._kinds:
            for label in self._labels:
                for other in self._kinds:
                    if self.fits(one, label, other):
                        yield (one, label, other)

    def turned(self):
        """The schema with sources and targets exchanged."""
        triples = {}
        for label, (sources, targets, loops) in self._triples.items():
            triples[label] = (targets, sources, loops)
        return Schema(self._kinds, triples)

    def with_loops(self, labels):
        """The schema in which just these labels can loop."""
        if not is_set(labels) or not all([could_loop(self, label) for label in labels]):
            raise InvalidOperation("these are no labels that can loop in such a schema")
        triples = {}
        for label, (sources, targets, _) in self._triples.items():
            triples[label] = (sources, targets, label in labels)
        return Schema(self._kinds, triples)

    def renamed(self, names):
        """The schema with other names, by a dict from some kinds and labels to names."""
        if not is_renaming(self, names):
            raise InvalidOperation("this is no dict from kinds and labels to names")
        table = {name: names.get(name, name) for name in self._kinds + self._labels}
        if not is_set(tuple(sorted(list(table.values())))):
            raise InvalidOperation("two kinds or labels would have one name")
        triples = {}
        for label, (sources, targets, loops) in self._triples.items():
            triples[table[label]] = (renamed_set(table, sources), renamed_set(table, targets), loops)
        return Schema(renamed_set(table, self._kinds), triples)


def check_schema(schema):
    """Raise InvalidSchema unless the value is a schema."""
    if not isinstance(schema, Schema):
        raise InvalidSchema("this is no schema")


def check_kinds(kinds):
    """Raise InvalidSchema unless these can be the kinds of a schema."""
    if not is_set(kinds) or not 1 <= len(kinds) <= MAX_KINDS:
        raise InvalidSchema("the kinds are no set of one to six names")


def check_labels(kinds, labels):
    """Raise an error unless these can be the labels of a schema with these kinds."""
    if not isinstance(labels, dict):
        raise InvalidSchema("the labels are no dict")
    if not all([is_name(label) for label in labels]):
        raise InvalidName("a label is no name")
    if not 1 <= len(labels) <= MAX_LABELS:
        raise InvalidSchema("there are not one to eight labels")
    for label, triple in labels.items():
        if label in kinds or not is_triple(kinds, triple):
            raise InvalidSchema("a label is called like a kind, or has no right triple")


def is_triple(kinds, value):
    """Whether the value can be the sources, targets and loops of a label."""
    if not isinstance(value, tuple) or len(value) != 3:
        return False
    sources, targets, loops = value
    if not are_ends(kinds, sources) or not are_ends(kinds, targets) or not isinstance(loops, bool):
        return False
    return not loops or have_common(sources, targets)


def are_ends(kinds, value):
    """Whether the value is a set of some of the kinds that is not empty."""
    return is_set(value) and len(value) > 0 and all([kind in kinds for kind in value])


def have_common(sources, targets):
    """Whether a kind is in both sets."""
    return any([kind in targets for kind in sources])


def could_loop(schema, label):
    """Whether the name is a label that has a kind both as a source and as a target."""
    if label not in schema.labels:
        return False
    sources, targets, _ = schema[label]
    return have_common(sources, targets)


def is_renaming(schema, value):
    """Whether the value is a dict from some kinds and labels to names."""
    if not isinstance(value, dict):
        return False
    return all([old in schema and is_name(new) for old, new in value.items()])


def renamed_set(table, names):
    """The set of the names that the table has for these."""
    return tuple(sorted([table[name] for name in names]))


def check_same_schema(one, other):
    """Raise InvalidOperation unless both schemas are equal."""
    if one != other:
        raise InvalidOperation("the schemas differ")
