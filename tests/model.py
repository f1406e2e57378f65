"""A second machine, written straight from the points 9 to 25 in another way: bodies are lists of orders with jumps,
whatever happens is a generator that yields its events, and notes and readers are plain lists."""


def orders_of(rows, path):
    """The rows of a body as a list of (path, form, arguments); "jump" and "test" lead to places in the list."""
    orders = []

    def put_rows(inner, base):
        for place, row in enumerate(inner):
            at = base + (place,)
            if row[0] != "if":
                orders.append([at, row[0], list(row[1:])])
                continue
            test = [at, "test", [row[1], row[2], None]]
            orders.append(test)
            put_rows(row[3], at + (0,))
            jump = [None, "jump", [None]]
            orders.append(jump)
            test[2][2] = len(orders)
            put_rows(row[4], at + (1,))
            jump[2][0] = len(orders)

    put_rows(rows, path)
    return orders


class Exceeded(Exception):
    """One run of an effect too many."""


class Model:
    def __init__(self, program, rule, most=200):
        self.program, self.rule, self.most = program, rule, most
        self.default = program.words[0]
        self.effects = list(program.effect_names())
        self.derived = list(program.derived_names())
        self.orders = {}
        for kind, pairs in (("derived", program.derived), ("effects", program.effects)):
            for index, (name, rows) in enumerate(pairs):
                self.orders[name] = orders_of(rows, (kind, index))
        self.word = {}
        self.stale = []
        self.notes = {name: [] for name in self.derived + self.effects}
        self.peeks = {name: [] for name in self.effects}
        self.readers = {cell: [] for cell in program.cells()}
        self.under_way = []
        self.marks = []
        self.queue = []
        self.works_off = False
        self.later = []
        self.never_run = []
        self.count = 0
        self.did = []

    def take(self, standing):
        self.word = dict(zip(self.program.sources, standing[0]))
        for name, entry in zip(self.derived, standing[1]):
            if entry:
                self.word[name] = entry[0]
                self.notes[name] = list(entry[2])
                self.stale += [name] * entry[1]
        for name, (notes, peeks) in zip(self.effects, standing[2]):
            self.notes[name], self.peeks[name] = list(notes), list(peeks)
        self.readers = dict(zip(self.program.cells(), map(list, standing[3])))

    def standing(self):
        return (
            tuple(self.word[source] for source in self.program.sources),
            tuple((self.word[name], name in self.stale, tuple(self.notes[name])) if name in self.word else None
                  for name in self.derived),
            tuple((tuple(self.notes[name]), tuple(self.peeks[name])) for name in self.effects),
            tuple(tuple(self.readers[cell]) for cell in self.program.cells()),
        )

    def asking(self, cell):
        if cell in self.derived and cell not in self.word:
            yield from self.working_out(cell)
        elif self.rule.mode == "pull" and cell in self.stale:
            yield from self.refreshing(cell)

    def working_out(self, name):
        answer = []
        yield from self.running(name, answer)
        self.word[name] = answer[0]
        self.stale = [other for other in self.stale if other != name]

    def refreshing(self, name):
        if self.rule.cut:
            pairs = list(self.notes[name])
            while pairs:
                cell, word = pairs.pop(0)
                if cell in self.stale:
                    yield from self.refreshing(cell)
                if self.word[cell] != word:
                    yield from self.working_out(name)
                    return
            self.stale.remove(name)
        else:
            yield from self.working_out(name)

    def running(self, name, answer):
        is_effect = name in self.effects
        if is_effect:
            if self.count >= self.most:
                raise Exceeded
            self.count += 1
            self.peeks[name] = []
        for names in self.readers.values():
            if name in names:
                names.remove(name)
        self.notes[name] = []
        yield ("run", name)
        slots = {}
        given = None if is_effect else self.default
        at = 0
        while at < len(self.orders[name]):
            path, form, rest = self.orders[name][at]
            at += 1
            if path is not None:
                self.did.append(path)
            if form == "jump":
                at = rest[0]
            elif form == "test":
                at = at if slots.get(rest[0], self.default) == rest[1] else rest[2]
            elif form == "put":
                slots[rest[0]] = rest[1]
            elif form == "give":
                given = slots.get(rest[0], self.default)
                break
            elif form == "say":
                yield ("say", name, slots.get(rest[0], self.default))
            elif form == "write":
                word = slots.get(rest[1], self.default)
                yield ("write", name, rest[0], word)
                if self.rule.inner == "later":
                    self.later.append([(rest[0], word)])
                else:
                    yield from self.writing([(rest[0], word)])
            else:
                yield from self.asking(rest[0])
                slots[rest[1]] = self.word[rest[0]]
                book = (self.notes if form == "read" else self.peeks)[name]
                if rest[0] not in [cell for cell, _ in book]:
                    book.append((rest[0], self.word[rest[0]]))
                    if form == "read":
                        self.readers[rest[0]].append(name)
                yield (form, name, rest[0], self.word[rest[0]])
        yield ("end", name, given)
        answer.append(given)

    def writing(self, writes):
        """The writes of one deed or row, with all that they cause but the waiting ones."""
        if self.rule.cut:
            writes = [(source, word) for source, word in writes if self.word[source] != word]
        for source, word in writes:
            self.word[source] = word
            yield ("set", source, word)
        sources = [source for source, _ in writes]
        if self.rule.mode == "push":
            for source in sources:
                yield from self.telling(source)
        elif self.rule.mode == "level":
            yield from self.levelling(sources)
        else:
            for source in sources:
                self.marking(source)
            yield from self.queue_work()

    def telling(self, cell):
        for name in tuple(self.readers[cell]):
            if cell not in dict(self.notes[name]):
                continue
            if name in self.effects:
                yield from self.effect_running(name)
                continue
            before = self.word[name]
            yield from self.working_out(name)
            if not (self.rule.cut and self.word[name] == before):
                yield from self.telling(name)

    def marking(self, cell):
        """Depth first, by a stack of names that are still to be looked at."""
        stack = self.readers[cell][::-1]
        while stack:
            name = stack.pop()
            if name in self.effects:
                self.queue += [name] if name not in self.queue else []
            elif name not in self.stale:
                self.stale.append(name)
                stack += self.readers[name][::-1]

    def queue_work(self):
        if self.works_off:
            return
        self.works_off = True
        while self.queue:
            name = self.queue[0]
            del self.queue[0]
            due = not self.rule.cut or name in self.never_run
            for cell, word in () if due else list(self.notes[name]):
                if cell in self.stale:
                    yield from self.refreshing(cell)
                if self.word[cell] != word:
                    due = True
                    break
            if due:
                self.never_run = [other for other in self.never_run if other != name]
                yield from self.running(name, [])
        self.works_off = False

    def levelling(self, sources):
        changed = set(sources)
        for name in self.derived:
            if name in self.word and changed & {cell for cell, _ in self.notes[name]}:
                before = self.word[name]
                yield from self.working_out(name)
                if not self.rule.cut or self.word[name] != before:
                    changed.add(name)
        for name in self.effects:
            if changed & {cell for cell, _ in self.notes[name]}:
                yield from self.effect_running(name)

    def effect_running(self, name):
        if name in self.under_way:
            self.marks.append(name)
            return
        self.under_way.append(name)
        while True:
            self.marks = [other for other in self.marks if other != name]
            yield from self.running(name, [])
            if name not in self.marks:
                break
        self.under_way.remove(name)

    def beginning(self, words):
        for source, word in zip(self.program.sources, words):
            self.word[source] = word
            yield ("set", source, word)
        if self.rule.mode == "pull":
            self.queue, self.never_run = self.effects[:], self.effects[:]
            yield from self.queue_work()
        else:
            for name in self.effects:
                yield from self.effect_running(name)
        yield from self.later_work()

    def later_work(self):
        while self.later:
            yield from self.writing(self.later.pop(0))

    def doing(self, deed):
        if deed[0] == "read":
            yield from self.asking(deed[1])
        else:
            yield from self.writing([deed[1:]] if deed[0] == "write" else list(deed[1]))
            yield from self.later_work()


def due_parts(model, events, deed=None, before=None):
    """The parts of the Step that is due, as a dict; None if it is too long."""
    try:
        found = tuple(events)
    except Exceeded:
        return None
    paths = model.program.row_paths()
    return {
        "deed": deed,
        "before": before,
        "after": model.standing(),
        "told": model.word[deed[1]] if deed and deed[0] == "read" else None,
        "events": found,
        "log": tuple((event[1], event[2]) for event in found if event[0] == "say"),
        "done": tuple(path for path in paths if path in model.did),
    }


def due_begin(program, rule, words, most=200):
    model = Model(program, rule, most)
    return due_parts(model, model.beginning(words))


def due_step(program, rule, standing, deed, most=200):
    model = Model(program, rule, most)
    model.take(standing)
    return due_parts(model, model.doing(deed), deed, standing)
