"""True words, and runs that are told nothing but true words."""

from toldonward.errors import InvalidStart, UnknownCell
from toldonward.records import Record


class TrueRun(Record):
    """A run that is told the known words, and what it has noted and done so far."""

    def __init__(self, default, known):
        super().__init__()
        self.default = default
        self.known = known
        self.slots = {}
        self.given = default

    def word_in(self, slot):
        return self.slots.get(slot, self.default)


def do_read(run, row):
    word = run.known[row[1]]
    run.slots[row[2]] = word
    run.noted.setdefault(row[1], word)


def do_peek(run, row):
    word = run.known[row[1]]
    run.slots[row[2]] = word
    run.peeked.setdefault(row[1], word)


def do_put(run, row):
    run.slots[row[1]] = row[2]


def do_write(run, row):
    run.written.append((row[1], run.word_in(row[2])))


def do_say(run, row):
    run.said.append(run.word_in(row[1]))


ACTIONS = {"read": do_read, "peek": do_peek, "put": do_put, "write": do_write, "say": do_say}


def do_rows(run, rows):
    """Do the rows in order; True if a give has ended the run."""
    for row in rows:
        if row[0] == "give":
            run.given = run.word_in(row[1])
            return True
        if row[0] == "if":
            chosen = row[3] if run.word_in(row[1]) == row[2] else row[4]
            if do_rows(run, chosen):
                return True
        else:
            action = ACTIONS[row[0]]
            action(run, row)
    return False


def run_truly(program, known, rows):
    """The run of a body, when the words of all cells that it may read are known."""
    run = TrueRun(program.words[0], known)
    do_rows(run, rows)
    return run


def is_start(program, words):
    """True for a tuple with one word of the program for each source."""
    if not isinstance(words, tuple) or len(words) != len(program.sources):
        return False
    return all([word in program.words for word in words])


def check_start(program, words):
    """Raise InvalidStart unless words has one word of the program for each source."""
    if not is_start(program, words):
        raise InvalidStart(words)


def known_words(program, words):
    """A dict with the true word of each cell."""
    known = dict(zip(program.sources, words))
    for name, rows in program.derived:
        # A body reads only cells that stand before it, so their words are known by now.
        known[name] = run_truly(program, known, rows).given
    return known


class Truths:
    """The true words of the cells of a program, which are worked out once for the same words of the sources."""

    def __init__(self, program):
        self.program = program
        self.known = {}

    def at_words(self, words):
        """A dict with the true word of each cell; it is only read."""
        if words not in self.known:
            self.known[words] = known_words(self.program, words)
        return self.known[words]


def true_words(program, words):
    """The true words of all cells, in the order of the cells."""
    check_start(program, words)
    known = known_words(program, words)
    return tuple([known[cell] for cell in program.cells()])


def true_word(program, words, cell):
    """The true word of the cell."""
    check_start(program, words)
    if cell not in program.cells():
        raise UnknownCell(cell)
    return known_words(program, words)[cell]


def true_run(program, words, name):
    """What a run of the body notes, peeks, says, writes and gives if all it is told is true."""
    check_start(program, words)
    rows = program.body(name)
    run = run_truly(program, known_words(program, words), rows)
    if name in program.effect_names():
        run.given = None
    return run.parts()
