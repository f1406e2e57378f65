"""Sets of sources, and words of the sources that agree on them."""


def is_source_set(program, value):
    """True for a tuple of different sources in their order."""
    if not isinstance(value, tuple):
        return False
    return value == sources_in(program, value)


def sources_in(program, names):
    """The sources that stand among the names, in their order."""
    return tuple([source for source in program.sources if source in names])


def sources_outside(program, names):
    """The sources that do not stand among the names, in their order."""
    return tuple([source for source in program.sources if source not in names])


def source_sets(program):
    """All sets of sources: the ones with fewer sources first, then by the places of their sources."""
    many = len(program.sources)
    found = []
    same_size = [()]
    while same_size:
        found.extend(same_size)
        same_size = [
            places + (place,) for places in same_size for place in range(many)
            if len(places) == 0 or places[-1] < place
        ]
    return [tuple([program.sources[place] for place in places]) for places in found]


def is_part(first, second):
    """True if each source of the first set stands in the second one."""
    return all([source in second for source in first])


def least_of(found):
    """Those of the sets that contain no other one of them, in their order."""
    return [
        sources for sources in found
        if not any([is_part(other, sources) and other != sources for other in found])
    ]


def agreeing(program, words, sources):
    """All words, in their order, that agree with the given ones on the set of sources."""
    found = [()]
    for source, word in zip(program.sources, words):
        choices = (word,) if source in sources else program.words
        found = [row + (choice,) for row in found for choice in choices]
    return found


def all_words(program):
    """All words of the sources, in their order: one word of the program for each source."""
    found = [()]
    for _ in program.sources:
        found = [row + (word,) for row in found for word in program.words]
    return found
