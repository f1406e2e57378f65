"""The twelve rules by which a change spreads."""

from toldonward.errors import InvalidRule

MODES = ("push", "pull", "level")
INNERS = ("once", "later")


class Rule:
    """A rule; it never changes."""

    def __init__(self, mode, cut, inner):
        if mode not in MODES:
            raise InvalidRule("mode")
        # An integer is no flag, although 0 == False.
        if not isinstance(cut, bool):
            raise InvalidRule("cut")
        if inner not in INNERS:
            raise InvalidRule("inner")
        self.mode = mode
        self.cut = cut
        self.inner = inner

    def __eq__(self, other):
        return (
            isinstance(other, Rule)
            and self.mode == other.mode
            and self.cut == other.cut
            and self.inner == other.inner
        )


def all_rules():
    """The twelve rules, by mode, then cut, then inner."""
    return [Rule(mode, cut, inner) for mode in MODES for cut in (False, True) for inner in INNERS]
