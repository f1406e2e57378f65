"""The rows of bodies: which are valid, and the paths to them."""

from toldonward.checks import is_name

MOST_ROWS = 16
DEEPEST_IF = 3

# The place of the slot in a row of each form.
SLOT_PLACES = {"read": 2, "peek": 2, "put": 1, "if": 1, "give": 1, "write": 2, "say": 1}


class Scope:
    """What the rows of one body may be and may name."""

    def __init__(self, kind, words, sources, readable):
        self.kind = kind
        self.words = words
        self.sources = sources
        self.readable = readable


def is_read_row(row, scope):
    return len(row) == 3 and row[1] in scope.readable and is_name(row[2])


def is_put_row(row, scope):
    return len(row) == 3 and is_name(row[1]) and row[2] in scope.words


def is_if_row(row, scope):
    if len(row) != 5 or not is_name(row[1]) or row[2] not in scope.words:
        return False
    return isinstance(row[3], tuple) and isinstance(row[4], tuple)


def is_slot_row(row, scope):
    return len(row) == 2 and is_name(row[1])


def is_write_row(row, scope):
    return len(row) == 3 and row[1] in scope.sources and is_name(row[2])


DERIVED_FORMS = {"read": is_read_row, "put": is_put_row, "if": is_if_row, "give": is_slot_row}

EFFECT_FORMS = {
    "read": is_read_row,
    "peek": is_read_row,
    "put": is_put_row,
    "if": is_if_row,
    "write": is_write_row,
    "say": is_slot_row,
}


def check_of(kind, form):
    """The check of the rest of such a row in a body of this kind; None if it may not stand there."""
    if kind == "derived":
        return DERIVED_FORMS.get(form)
    return EFFECT_FORMS.get(form)


def is_valid_row(row, scope, depth):
    """True if the value may stand as a row there; rows inside an if row do not count."""
    # A first item that is no text could not be looked up in the tables.
    if not isinstance(row, tuple) or len(row) == 0 or not isinstance(row[0], str):
        return False
    if row[0] == "if" and depth > DEEPEST_IF:
        return False
    fits = check_of(scope.kind, row[0])
    return fits is not None and fits(row, scope)


def first_wrong_path(rows, scope, base, depth):
    """The path of the first row in program order that is not valid, or None."""
    for place, row in enumerate(rows):
        path = base + (place,)
        if not is_valid_row(row, scope, depth):
            return path
        if row[0] == "if":
            for branch in (0, 1):
                wrong = first_wrong_path(row[3 + branch], scope, path + (branch,), depth + 1)
                if wrong is not None:
                    return wrong
    return None


def paths_of_rows(rows, base):
    """The paths of valid rows in program order, each one behind the base."""
    paths = []
    for place, row in enumerate(rows):
        path = base + (place,)
        paths.append(path)
        if row[0] == "if":
            for branch in (0, 1):
                paths.extend(paths_of_rows(row[3 + branch], path + (branch,)))
    return paths


def row_behind(rows, steps):
    """The row to which the steps, a tuple of integers, lead; None if there is none."""
    if len(steps) == 0 or not 0 <= steps[0] < len(rows):
        return None
    row = rows[steps[0]]
    if len(steps) == 1:
        return row
    if row[0] != "if" or steps[1] not in (0, 1):
        return None
    return row_behind(row[3 + steps[1]], steps[2:])


def rows_with(rows, steps, row):
    """The rows with another row in the place to which the steps lead."""
    place = steps[0]
    changed = row
    if len(steps) > 1:
        holder = rows[place]
        at = 3 + steps[1]
        inner = rows_with(holder[at], steps[2:], row)
        changed = holder[:at] + (inner,) + holder[at + 1:]
    return rows[:place] + (changed,) + rows[place + 1:]


def slots_in(rows):
    """The slots that valid rows name, also those of the rows inside."""
    slots = []
    for row in rows:
        slots.append(row[SLOT_PLACES[row[0]]])
        if row[0] == "if":
            slots.extend(slots_in(row[3] + row[4]))
    return slots
