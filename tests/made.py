"""Made-up programs, standings and deeds, by a die that always falls in the same way."""

from toldonward.programs import Program
from toldonward.standings import deeds

SLOTS = ("x", "y", "z")
ALL_WORDS = ("off", "on", "mid", "top")


class Maker:
    """Makes the rows of one body: at most so many, which mostly look at slots that were set before."""

    def __init__(self, dice, kind, words, sources, cells, peeks, writes):
        self.dice = dice
        self.words = words
        self.sources = sources
        self.cells = cells
        self.forms = ["read", "read", "read", "put"]
        self.forms += ["give"] if kind == "derived" else ["say", "say"] + ["peek"] * peeks + ["write"] * writes
        self.last = "give" if kind == "derived" else "say"
        self.left = dice.randint(1, 10)
        self.used = []

    def new_slot(self):
        self.used.append(self.dice.choice(SLOTS))
        return self.used[-1]

    def old_slot(self):
        return self.dice.choice(self.used[-3:] if self.used and self.dice.random() < 0.9 else SLOTS)

    def rows(self, depth, least):
        found = []
        while self.left > 0 and (len(found) < least or self.dice.random() < 0.75):
            self.left -= 1
            found.append(self.row(depth))
        return tuple(found)

    def row(self, depth):
        form = self.dice.choice(self.forms + ["if"] * (3 if depth < 4 else 0))
        if form in ("read", "peek"):
            return (form, self.dice.choice(self.cells), self.new_slot())
        if form == "put":
            return (form, self.new_slot(), self.dice.choice(self.words))
        if form == "if":
            head = (form, self.old_slot(), self.dice.choice(self.words))
            return head + (self.rows(depth + 1, 1), self.rows(depth + 1, 0))
        if form == "write":
            return (form, self.dice.choice(self.sources), self.old_slot())
        return (form, self.old_slot())

    def body(self):
        first = ()
        if self.dice.random() < 0.9:
            first = (("read", self.dice.choice(self.cells), self.new_slot()),)
        inner = self.rows(1, 1)
        return first + inner + ((self.last, self.old_slot()),)


def made_program(dice, peeks=1, writes=1, words=3, sources=3, derived=4, effects=3):
    """A right program with at most so many words, sources, derived cells and effects."""
    own_words = ALL_WORDS[:dice.randint(2, words)]
    own_sources = ("s", "t", "u", "v")[:dice.randint(1, sources)]
    cells = own_sources
    own_derived = []
    for name in ("a", "b", "c", "d", "g", "h")[:dice.randint(0, derived)]:
        own_derived.append((name, Maker(dice, "derived", own_words, own_sources, cells, 0, 0).body()))
        cells += (name,)
    own_effects = []
    for name in ("e", "f", "i", "j")[:dice.randint(min(1, effects), effects)]:
        own_effects.append((name, Maker(dice, "effects", own_words, own_sources, cells, peeks, writes).body()))
    return Program(own_words, own_sources, tuple(own_derived), tuple(own_effects))


def made_words(dice, program):
    return tuple(dice.choice(program.words) for _ in program.sources)


def made_notes(dice, program, cells):
    """Notes or peeks with some of the cells."""
    chosen = dice.sample(list(cells), dice.randint(0, min(3, len(cells))))
    return tuple((cell, dice.choice(program.words)) for cell in chosen)


def made_standing(dice, program, rule):
    """A right standing that seldom is one that a history reaches."""
    worked = list(program.sources)
    derived = []
    readers = {cell: [] for cell in program.cells()}
    for name in program.derived_names():
        if dice.random() < 0.2:
            derived.append(None)
            continue
        notes = made_notes(dice, program, worked)
        stale = rule.mode == "pull" and dice.random() < 0.4
        derived.append((dice.choice(program.words), stale, notes))
        worked.append(name)
        for cell, _ in notes:
            readers[cell].append(name)
    effects = []
    for name in program.effect_names():
        notes = made_notes(dice, program, worked)
        effects.append((notes, made_notes(dice, program, worked)))
        for cell, _ in notes:
            readers[cell].append(name)
    for names in readers.values():
        dice.shuffle(names)
    orders = tuple(tuple(readers[cell]) for cell in program.cells())
    return (made_words(dice, program), tuple(derived), tuple(effects), orders)


def made_deed(dice, program):
    """A deed: one of those that books use, a read of a source, or a batch of some writes."""
    if dice.random() < 0.2:
        return ("read", dice.choice(program.cells()))
    if dice.random() < 0.3:
        chosen = dice.sample(list(program.sources), dice.randint(1, len(program.sources)))
        return ("batch", tuple((source, dice.choice(program.words)) for source in chosen))
    return dice.choice(deeds(program))
