"""Which sources decide what a body tells."""

from math import factorial, gcd

from toldonward.errors import InvalidSources
from toldonward.sourcesets import agreeing, is_source_set, least_of, source_sets, sources_in, sources_outside
from toldonward.truth import true_run


def telling(program, words, name):
    """The word, the says and the writes of the true run of the body."""
    run = true_run(program, words, name)
    return (run["word"], run["says"], run["writes"])


class Tellings:
    """What a body tells at some words, and at the words that agree with them on a set."""

    def __init__(self, program, words, name):
        self.program = program
        self.words = words
        self.name = name
        self.due = telling(program, words, name)
        # A run for each of the words is what takes time: each one is done once, and only if it is asked for.
        self.known = {words: self.due}

    def tells_same(self, row):
        """True if the body tells at these words what is due."""
        if row not in self.known:
            self.known[row] = telling(self.program, row, self.name)
        return self.known[row] == self.due

    def flags(self, sources):
        """For each of the words that agree on the set, whether the body tells the same there."""
        return [self.tells_same(row) for row in agreeing(self.program, self.words, sources)]

    def decided_by(self, sources):
        """True if the set is a reason."""
        return all(self.flags(sources))

    def moved_by(self, sources):
        """True if the set is a lever."""
        return not self.decided_by(sources_outside(self.program, sources))

    def share_same(self, sources):
        """The share of the words that agree on the set at which the body tells the same."""
        flags = self.flags(sources)
        return lowest(flags.count(True), len(flags))


def lowest(numerator, denominator):
    """The fraction in lowest terms; the denominator is at least 1."""
    common = gcd(numerator, denominator)
    return (numerator // common, denominator // common)


def check_sources(program, value):
    """Raise InvalidSources unless the value is a set of sources."""
    if not is_source_set(program, value):
        raise InvalidSources(value)


def is_reason(program, words, name, value):
    """True if the value, which may be any value, is a set of sources that is a reason."""
    tellings = Tellings(program, words, name)
    return is_source_set(program, value) and tellings.decided_by(value)


def is_lever(program, words, name, value):
    """True if the value, which may be any value, is a set of sources that is a lever."""
    tellings = Tellings(program, words, name)
    return is_source_set(program, value) and tellings.moved_by(value)


def lever_words(program, words, name, sources):
    """The first words at which the body tells something else, where the set alone changes; None without any."""
    tellings = Tellings(program, words, name)
    check_sources(program, sources)
    for row in agreeing(program, words, sources_outside(program, sources)):
        if not tellings.tells_same(row):
            return row
    return None


def least_reasons(program, words, name):
    """All reasons no proper part of which is a reason."""
    tellings = Tellings(program, words, name)
    return least_of([sources for sources in source_sets(program) if tellings.decided_by(sources)])


def least_levers(program, words, name):
    """All levers no proper part of which is a lever."""
    tellings = Tellings(program, words, name)
    return least_of([sources for sources in source_sets(program) if tellings.moved_by(sources)])


def deciding_sources(program, words, name):
    """The sources that stand in some least reason."""
    found = []
    for sources in least_reasons(program, words, name):
        found.extend(sources)
    return sources_in(program, found)


def certainty(program, words, name, sources):
    """The share of the words that agree on the set at which the body tells the same."""
    tellings = Tellings(program, words, name)
    check_sources(program, sources)
    return tellings.share_same(sources)


def shares(program, words, name):
    """For each source, by how much it raises the certainty, as the mean over all orders of the sources."""
    tellings = Tellings(program, words, name)
    whole = len(agreeing(program, words, ()))
    counts = {}
    for sources in source_sets(program):
        numerator, denominator = tellings.share_same(sources)
        # All certainties as parts of the same whole: each denominator divides it.
        counts[sources] = numerator * whole // denominator
    return [share_of(program, counts, whole, source) for source in program.sources]


def share_of(program, counts, whole, source):
    """The share of one source, where counts holds the certainties of all sets as parts of the whole."""
    many = len(program.sources)
    total = 0
    for ahead in counts:
        if source not in ahead:
            # In so many of the orders, just these sources stand ahead of the source.
            orders = factorial(len(ahead)) * factorial(many - len(ahead) - 1)
            behind = sources_in(program, ahead + (source,))
            total = total + orders * (counts[behind] - counts[ahead])
    return lowest(total, whole * factorial(many))
