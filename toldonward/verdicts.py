"""Verdicts: sets of faults without a program."""

from toldonward.judge import KINDS, check_kind


class Verdict:
    """A set of faults, pairs of a kind and a name; it never changes."""

    def __init__(self, pairs):
        for kind, _ in pairs:
            check_kind(kind)
        self._pairs = tuple([
            (own, name) for own in KINDS
            for name in sorted(set([each for pair_kind, each in pairs if pair_kind == own]))
        ])

    def pairs(self):
        """The pairs, the kinds in the order of KINDS, then the names in string order."""
        return list(self._pairs)

    def kinds(self):
        """The kinds of the pairs, each once."""
        present = [kind for kind, _ in self._pairs]
        return [kind for kind in KINDS if kind in present]

    def only(self, kinds):
        """The verdict with the pairs of these kinds."""
        return Verdict([pair for pair in self._pairs if pair[0] in kinds])

    def __or__(self, other):
        return Verdict(self._pairs + other._pairs)

    def __and__(self, other):
        return Verdict([pair for pair in self._pairs if pair in other._pairs])

    def __sub__(self, other):
        return Verdict([pair for pair in self._pairs if pair not in other._pairs])

    def __eq__(self, other):
        return isinstance(other, Verdict) and self._pairs == other._pairs

    def __len__(self):
        return len(self._pairs)

    def __contains__(self, x):
        return x in self._pairs
