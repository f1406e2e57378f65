"""Programs of sources, derived cells and effects."""

from toldonward.checks import are_named_pairs, are_names, is_integer
from toldonward.errors import InvalidPath, InvalidProgram, UnknownCell
from toldonward.rows import MOST_ROWS, Scope, first_wrong_path, paths_of_rows, row_behind, rows_with

LEAST_WORDS = 2
MOST_WORDS = 4
LEAST_SOURCES = 1
MOST_SOURCES = 4
MOST_DERIVED = 6
MOST_EFFECTS = 4


class Program:
    """A program; it never changes."""

    def __init__(self, words, sources, derived, effects):
        check_parts(words, sources, derived, effects)
        check_bodies(words, sources, derived, effects)
        self.words = words
        self.sources = sources
        self.derived = derived
        self.effects = effects
        # Kept, for they are asked for all the time.
        self._derived_names = names_of(derived)
        self._effect_names = names_of(effects)

    def __eq__(self, other):
        return (
            isinstance(other, Program)
            and self.words == other.words
            and self.sources == other.sources
            and self.derived == other.derived
            and self.effects == other.effects
        )

    def cells(self):
        """The names of the sources, then those of the derived cells."""
        return self.sources + self._derived_names

    def derived_names(self):
        return self._derived_names

    def effect_names(self):
        return self._effect_names

    def body(self, name):
        """The rows of the derived cell or effect of this name."""
        for own_name, rows in self.derived + self.effects:
            if own_name == name:
                return rows
        raise UnknownCell(name)

    def row_paths(self):
        """The paths of all rows in program order."""
        paths = []
        for kind, pairs in (("derived", self.derived), ("effects", self.effects)):
            for index, (_, rows) in enumerate(pairs):
                paths.extend(paths_of_rows(rows, (kind, index)))
        return paths

    def row_at(self, path):
        """The row at the path, which may be any value."""
        row = None
        if is_path_form(path):
            pairs = self.derived if path[0] == "derived" else self.effects
            if 0 <= path[1] < len(pairs):
                row = row_behind(pairs[path[1]][1], path[2:])
        if row is None:
            raise InvalidPath(path)
        return row

    def with_row(self, path, row):
        """A new program with another row at the path."""
        self.row_at(path)
        if path[0] == "derived":
            derived = pairs_with(self.derived, path[1:], row)
            return Program(self.words, self.sources, derived, self.effects)
        effects = pairs_with(self.effects, path[1:], row)
        return Program(self.words, self.sources, self.derived, effects)


def names_of(pairs):
    return tuple([name for name, _ in pairs])


def is_path_form(value):
    """True if the value is a kind of body and at least two integers."""
    if not isinstance(value, tuple) or len(value) < 3:
        return False
    if value[0] != "derived" and value[0] != "effects":
        return False
    return all([is_integer(step) for step in value[1:]])


def pairs_with(pairs, steps, row):
    """The pairs with another row in the body at the first step."""
    index = steps[0]
    name, rows = pairs[index]
    return pairs[:index] + ((name, rows_with(rows, steps[1:], row)),) + pairs[index + 1:]


def check_parts(words, sources, derived, effects):
    """Raise InvalidProgram for the first of the four parts that fails."""
    if not are_names(words, LEAST_WORDS, MOST_WORDS):
        raise InvalidProgram("words", ())
    if not are_names(sources, LEAST_SOURCES, MOST_SOURCES):
        raise InvalidProgram("sources", ())
    if not are_named_pairs(derived, MOST_DERIVED, sources):
        raise InvalidProgram("derived", ())
    if not are_named_pairs(effects, MOST_EFFECTS, sources + names_of(derived)):
        raise InvalidProgram("effects", ())


def check_bodies(words, sources, derived, effects):
    """Raise InvalidProgram for the first fault of the bodies, the parts being right."""
    readable = sources
    for index, (name, rows) in enumerate(derived):
        check_body(rows, Scope("derived", words, sources, readable), index)
        # A derived cell may be read only by what stands behind it.
        readable = readable + (name,)
    for index, (_, rows) in enumerate(effects):
        check_body(rows, Scope("effects", words, sources, readable), index)


def check_body(rows, scope, index):
    base = (scope.kind, index)
    if not isinstance(rows, tuple):
        raise InvalidProgram("rows", base)
    wrong = first_wrong_path(rows, scope, base, 1)
    if wrong is not None:
        raise InvalidProgram("rows", wrong)
    if len(paths_of_rows(rows, base)) > MOST_ROWS:
        raise InvalidProgram("many", base)
