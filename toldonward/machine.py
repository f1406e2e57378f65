"""A program amid a start or a deed: its cells are asked, its bodies run, and writes spread."""

from toldonward.errors import TooManyRuns


class Run:
    """A run that is not over, and the word that it gives so far."""

    def __init__(self, name, default):
        self.name = name
        self.default = default
        self.slots = {}
        self.given = default

    def word_in(self, slot):
        return self.slots.get(slot, self.default)


class Machine:
    """What a standing holds, and what is under way; what happened stands in events and done."""

    def __init__(self, program, rule, most):
        self.program = program
        self.rule = rule
        self.most = most
        self.bodies = bodies_of(program)
        # The words that sources hold and derived cells keep; those that were never worked out are not there.
        self.held = {}
        self.stale = {}
        self.notes = {name: {} for name in self.bodies}
        self.peeks = {name: {} for name in program.effect_names()}
        self.readers = {cell: {} for cell in program.cells()}
        self.running = {}
        self.marked = {}
        self.queue = []
        self.is_queue_worked_off = False
        self.waiting = []
        self.runs = 0
        self.events = []
        self.done = {}

    def load(self, standing):
        """Take over the standing."""
        words, derived, effects, readers = standing
        for source, word in zip(self.program.sources, words):
            self.held[source] = word
        for name, entry in zip(self.program.derived_names(), derived):
            if entry is not None:
                self.held[name] = entry[0]
                if entry[1]:
                    self.stale[name] = True
                self.notes[name] = dict(entry[2])
        for name, (notes, peeks) in zip(self.program.effect_names(), effects):
            self.notes[name] = dict(notes)
            self.peeks[name] = dict(peeks)
        for cell, names in zip(self.program.cells(), readers):
            self.readers[cell] = {name: True for name in names}

    def at_rest(self):
        """The standing now."""
        words = tuple([self.held[source] for source in self.program.sources])
        derived = tuple([self.entry_of(name) for name in self.program.derived_names()])
        effects = tuple([
            (tuple(self.notes[name].items()), tuple(self.peeks[name].items()))
            for name in self.program.effect_names()
        ])
        readers = tuple([tuple(self.readers[cell]) for cell in self.program.cells()])
        return (words, derived, effects, readers)

    def entry_of(self, name):
        if name not in self.held:
            return None
        return (self.held[name], name in self.stale, tuple(self.notes[name].items()))

    def start(self, words):
        """The start with these words of the sources."""
        for source, word in zip(self.program.sources, words):
            self.set_source(source, word)
        if self.rule.mode == "pull":
            self.queue = list(self.program.effect_names())
            self.work_off_queue()
        else:
            for name in self.program.effect_names():
                self.run_or_mark(name)
        self.work_off_waiting()

    def do_deed(self, deed):
        """Do the deed; returns the word that it tells (None unless it is a read)."""
        if deed[0] == "read":
            return self.ask(deed[1])
        self.write_together((deed[1:],) if deed[0] == "write" else deed[1])
        self.work_off_waiting()
        return None

    def ask(self, cell):
        """The word of the cell, which is worked out or refreshed first if need be."""
        if cell not in self.held:
            self.work_out(cell)
        elif cell in self.stale:
            self.refresh(cell)
        return self.held[cell]

    def refresh(self, name):
        """Refresh a stale derived cell."""
        if not self.rule.cut or self.has_other_word(name):
            self.work_out(name)
        else:
            del self.stale[name]

    def has_other_word(self, name):
        """Refresh the noted cells in order, up to one that does not have the noted word; True if there is one."""
        for cell, word in list(self.notes[name].items()):
            if cell in self.stale:
                self.refresh(cell)
            if self.held[cell] != word:
                return True
        return False

    def work_out(self, name):
        self.held[name] = self.run_body(name)
        if name in self.stale:
            del self.stale[name]

    def is_changed_by_work(self, name):
        """Work out a derived cell again; True if that spreads further."""
        before = self.held[name]
        self.work_out(name)
        return not self.rule.cut or self.held[name] != before

    def run_body(self, name):
        """Do a run of the body; returns the word that it gives (None for an effect)."""
        path, rows = self.bodies[name]
        run = Run(name, self.program.words[0])
        for cell in self.notes[name]:
            del self.readers[cell][name]
        self.notes[name] = {}
        if name in self.peeks:
            self.peeks[name] = {}
        self.events.append(("run", name))
        self.do_rows(run, rows, path)
        word = None if name in self.peeks else run.given
        self.events.append(("end", name, word))
        return word

    def do_rows(self, run, rows, path):
        """Do the rows in order; True if a give has ended the run."""
        for place, row in enumerate(rows):
            at = path + (place,)
            self.done[at] = True
            if row[0] == "give":
                run.given = run.word_in(row[1])
                return True
            if row[0] == "if":
                branch = 0 if run.word_in(row[1]) == row[2] else 1
                if self.do_rows(run, row[3 + branch], at + (branch,)):
                    return True
            else:
                self.do_row(run, row)
        return False

    def do_row(self, run, row):
        """Do a row of another form than give and if."""
        if row[0] == "read":
            self.do_read(run, row[1], row[2])
        elif row[0] == "peek":
            self.do_peek(run, row[1], row[2])
        elif row[0] == "put":
            run.slots[row[1]] = row[2]
        elif row[0] == "say":
            self.events.append(("say", run.name, run.word_in(row[1])))
        else:
            self.do_write(run, row[1], run.word_in(row[2]))

    def do_read(self, run, cell, slot):
        word = self.ask(cell)
        notes = self.notes[run.name]
        if cell not in notes:
            notes[cell] = word
            self.readers[cell][run.name] = True
        self.events.append(("read", run.name, cell, word))
        run.slots[slot] = word

    def do_peek(self, run, cell, slot):
        word = self.ask(cell)
        self.peeks[run.name].setdefault(cell, word)
        self.events.append(("peek", run.name, cell, word))
        run.slots[slot] = word

    def do_write(self, run, source, word):
        self.events.append(("write", run.name, source, word))
        if self.rule.inner == "once":
            self.write_together(((source, word),))
        else:
            self.waiting.append((source, word))

    def work_off_waiting(self):
        while self.waiting:
            self.write_together((self.waiting.pop(0),))

    def write_together(self, writes):
        """The writes, which are to different sources, take place as one change."""
        counting = [
            (source, word) for source, word in writes
            if not self.rule.cut or self.held[source] != word
        ]
        for source, word in counting:
            self.set_source(source, word)
        self.spread([source for source, _ in counting])

    def set_source(self, source, word):
        self.held[source] = word
        self.events.append(("set", source, word))

    def spread(self, sources):
        """The change of the sources spreads by the mode."""
        if self.rule.mode == "level":
            self.work_by_level(sources)
        elif self.rule.mode == "push":
            for source in sources:
                self.tell_readers(source)
        else:
            for source in sources:
                self.mark_readers(source)
            self.work_off_queue()

    def tell_readers(self, cell):
        """Under "push": the readers of the cell are run again, and what that changes is told on."""
        for name in list(self.readers[cell]):
            if cell in self.notes[name]:
                if name in self.peeks:
                    self.run_or_mark(name)
                elif self.is_changed_by_work(name):
                    self.tell_readers(name)

    def mark_readers(self, cell):
        """Under "pull": what depends on the cell becomes stale or is put in the queue."""
        for name in self.readers[cell]:
            if name in self.peeks:
                if name not in self.queue:
                    self.queue.append(name)
            elif name not in self.stale:
                self.stale[name] = True
                self.mark_readers(name)

    def work_off_queue(self):
        """Under "pull": run the effects of the queue; nothing where it is being worked off already."""
        if self.is_queue_worked_off:
            return
        self.is_queue_worked_off = True
        while self.queue:
            name = self.queue.pop(0)
            # An effect without notes stands in the queue of a start alone: it has never been run.
            if not self.rule.cut or not self.notes[name] or self.has_other_word(name):
                self.run_effect(name)
        self.is_queue_worked_off = False

    def work_by_level(self, sources):
        """Under "level": the derived cells, then the effects, whose notes contain a changed cell are run again."""
        changed = {source: True for source in sources}
        for name in self.program.derived_names():
            if self.has_noted(name, changed) and self.is_changed_by_work(name):
                changed[name] = True
        for name in self.program.effect_names():
            if self.has_noted(name, changed):
                self.run_or_mark(name)

    def has_noted(self, name, changed):
        return any([cell in changed for cell in self.notes[name]])

    def run_or_mark(self, name):
        """Run the effect, and again while it is marked behind a run; mark it if a run of it is not over."""
        if name in self.running:
            self.marked[name] = True
            return
        self.running[name] = True
        self.run_effect(name)
        while name in self.marked:
            del self.marked[name]
            self.run_effect(name)
        del self.running[name]

    def run_effect(self, name):
        if self.runs == self.most:
            raise TooManyRuns(self.most)
        self.runs += 1
        self.run_body(name)


def bodies_of(program):
    """A dict with the path and the rows of each body."""
    bodies = {}
    for kind, pairs in (("derived", program.derived), ("effects", program.effects)):
        for index, (name, rows) in enumerate(pairs):
            bodies[name] = ((kind, index), rows)
    return bodies
