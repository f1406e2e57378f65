"""What runs lead to, found in the order of the runs."""

from toldonward.errors import LimitExceeded


class Trail:
    """Things that runs lead to, each once, in the order of their least runs.

    A run is kept by its end: the place of the thing ahead of its last deed, and that deed; for a start these are
    None and the words. So what finds things must try starts and deeds in the order of the runs.
    """

    def __init__(self, limit):
        self.limit = limit
        self.found = []
        self.places = {}
        self.ends = []

    def place_of(self, thing, before, last):
        """The place of the thing to which the run with this end leads; a new one is put behind the others."""
        if thing not in self.places:
            if len(self.found) == self.limit:
                raise LimitExceeded(self.limit)
            self.places[thing] = len(self.found)
            self.found.append(thing)
            self.ends.append((before, last))
        return self.places[thing]

    def run_with_end(self, before, last):
        """The run with this end, the least one up to its last deed."""
        deeds = []
        while before is not None:
            deeds.append(last)
            before, last = self.ends[before]
        return (last, tuple(deeds[::-1]))
