"""What a run is told and what it does."""


class Record:
    """The notes, peeks, says and writes of a run, and the word that it gives (None for an effect)."""

    def __init__(self):
        self.noted = {}
        self.peeked = {}
        self.said = []
        self.written = []
        self.given = None

    def parts(self):
        """A new dict with the parts; the first four are tuples."""
        return {
            "notes": tuple(self.noted.items()),
            "peeks": tuple(self.peeked.items()),
            "says": tuple(self.said),
            "writes": tuple(self.written),
            "word": self.given,
        }
