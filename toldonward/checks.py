"""Tests of plain values: integers and names."""

LONGEST_NAME = 8


def is_integer(value):
    """True for an int that is not a bool."""
    return isinstance(value, int) and not isinstance(value, bool)


def is_name(value):
    """True for a text of 1 to 8 letters from a to z."""
    if not isinstance(value, str) or not 1 <= len(value) <= LONGEST_NAME:
        return False
    return all(["a" <= letter <= "z" for letter in value])


def are_names(value, least, most):
    """True for a tuple of different names, at least and at most so many."""
    if not isinstance(value, tuple) or not least <= len(value) <= most:
        return False
    # Only names may become members of the set: other values need not be hashable.
    return all([is_name(item) for item in value]) and len(set(value)) == len(value)


def are_named_pairs(value, most, taken):
    """True for a tuple of pairs whose names are new: not taken, none twice."""
    if not isinstance(value, tuple) or len(value) > most:
        return False
    before = list(taken)
    for pair in value:
        if not isinstance(pair, tuple) or len(pair) != 2:
            return False
        if not is_name(pair[0]) or pair[0] in before:
            return False
        before.append(pair[0])
    return True
