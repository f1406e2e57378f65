"""Second ways to find what the modules of books, comparisons and counts answer.

All of it rests on the second machine of tests.model and on the runs themselves: a run has a key, which is the order of
point 31 written as a tuple, and the least run is the one with the least key.
"""

import itertools

from tests.model import due_begin, due_step, orders_of
from toldonward.judge import KINDS
from toldonward.programs import Program
from toldonward.truth import true_word


def all_words(program):
    return list(itertools.product(program.words, repeat=len(program.sources)))


def due_deeds(program, batches=True):
    """The deeds of books, straight from point 25."""
    writes = [("write", source, word) for source in program.sources for word in program.words]
    pairs = [
        ("batch", ((first, one), (second, two)))
        for (first, one), (second, two) in itertools.combinations([write[1:] for write in writes], 2)
        if first != second
    ]
    return writes + pairs * batches + [("read", name) for name, _ in program.derived]


def due_faults(program, before, events):
    """A second way to find the faults, kind by kind, straight from the words of point 26."""
    effects = program.effect_names()

    def words_at(place):
        words = dict(zip(program.sources, before[0])) if before else {}
        words.update((event[1], event[2]) for event in events[:place] if event[0] == "set")
        return tuple(words[source] for source in program.sources)

    def runs_of_name(name):
        found = [dict(enumerate(before[2][effects.index(name)]))] if before else []
        for event in events:
            if event[:2] == ("run", name):
                found.append({0: (), 1: ()})
            elif event[0] in ("read", "peek") and event[1] == name:
                part = ("read", "peek").index(event[0])
                if event[2] not in [cell for cell, _ in found[-1][part]]:
                    found[-1][part] += (event[2:],)
        return found

    found = []
    for place, event in enumerate(events):
        if event[0] in ("read", "peek") and true_word(program, words_at(place), event[2]) != event[3]:
            found.append(("mixed" if event[1] in effects else "through", event[1]))
    for name in effects:
        runs = runs_of_name(name)
        many = sum(event[:2] == ("run", name) for event in events)
        if many > 1 and all(event[0] != "write" for event in events):
            found.append(("twice", name))
        if any(runs[place - 1][0] == runs[place][0] for place in range(1, len(runs))):
            found.append(("needless", name))
        told = runs[-1][0] + runs[-1][1] if runs else ()
        if any(true_word(program, words_at(len(events)), cell) != word for cell, word in told):
            found.append(("missed", name))
    places = program.cells() + effects
    return sorted(set(found), key=lambda pair: (KINDS.index(pair[0]), places.index(pair[1])))


def key_of(program, moves, run):
    """What runs are ordered by."""
    words, deeds = run
    places = tuple(program.words.index(word) for word in words)
    return (len(deeds), places, tuple(moves.index(deed) for deed in deeds))


class TooMany(Exception):
    """More standings than a test wants to look at."""


class Graph:
    """The standings of a book with all that leads from one to another, found in no particular order."""

    def __init__(self, program, rule, batches=True, most=200, at_most=60):
        self.program = program
        self.moves = due_deeds(program, batches)
        self.openings = {words: due_begin(program, rule, words, most) for words in all_words(program)}
        self.edges = {}
        stack = [parts["after"] for parts in self.openings.values() if parts]
        while stack:
            standing = stack.pop()
            if standing in self.edges:
                continue
            if len(self.edges) == at_most:
                raise TooMany
            self.edges[standing] = {deed: due_step(program, rule, standing, deed, most) for deed in self.moves}
            stack.extend(parts["after"] for parts in self.edges[standing].values() if parts)
        self.keys = self.least_keys()

    def key(self, run):
        return key_of(self.program, self.moves, run)

    def least_keys(self):
        """The least key and the least run for each standing: made smaller until nothing changes."""
        best = {}

        def offer(standing, run):
            told = (self.key(run), run)
            if standing not in best or told < best[standing]:
                best[standing] = told
                return True
            return False

        for words, parts in self.openings.items():
            if parts:
                offer(parts["after"], (words, ()))
        changed = True
        while changed:
            changed = False
            for standing in list(best)[::-1]:
                words, deeds = best[standing][1]
                for deed, parts in self.edges[standing].items():
                    if parts and offer(parts["after"], (words, deeds + (deed,))):
                        changed = True
        return best

    def ends(self):
        """Each start and each deed of the book: the least run that ends with it, and its parts (None: too long)."""
        found = [((words, ()), parts) for words, parts in self.openings.items()]
        for standing, outcomes in self.edges.items():
            words, deeds = self.keys[standing][1]
            found.extend(((words, deeds + (deed,)), parts) for deed, parts in outcomes.items())
        return sorted(found, key=lambda pair: self.key(pair[0]))

    def standings(self):
        return sorted(self.edges, key=lambda standing: self.keys[standing][0])

    def faults(self):
        """The faults with their least runs."""
        found = {}
        for run, parts in self.ends():
            own = due_faults(self.program, parts["before"], parts["events"]) if parts else [("long", "")]
            for fault in own:
                found.setdefault(fault, run)
        return found

    def walk(self, run):
        """The standing to which the run leads, deed by deed."""
        standing = self.openings[run[0]]["after"]
        for deed in run[1]:
            parts = self.edges[standing][deed]
            standing = parts["after"] if parts else standing
        return standing

    def shown(self, standing, deed):
        """What is told, what is said and where it leads; None where it is too long."""
        parts = self.edges[standing][deed]
        return parts and (parts["told"], parts["log"])

    def behind(self, standing, deed):
        parts = self.edges[standing][deed]
        return parts["after"] if parts else standing


def runs_up_to(program, moves, length):
    """All runs with at most so many deeds, in their order."""
    for many in range(length + 1):
        for words in all_words(program):
            for deeds in itertools.product(moves, repeat=many):
                yield (words, deeds)


def apart_pairs(graph):
    """All pairs of standings that some deeds take apart: marked until nothing changes."""
    marked = set()
    changed = True
    while changed:
        changed = False
        for pair in itertools.product(graph.edges, repeat=2):
            if pair in marked:
                continue
            for deed in graph.moves:
                one, two = (graph.shown(standing, deed) for standing in pair)
                if one != two or tuple(graph.behind(standing, deed) for standing in pair) in marked:
                    marked.add(pair)
                    changed = True
                    break
    return marked


class Told:
    """One of two sides in a comparison: a program under a rule, by the second machine."""

    def __init__(self, program, rule, most):
        self.program, self.rule, self.most = program, rule, most

    def begin(self, words):
        parts = due_begin(self.program, self.rule, words, self.most)
        return parts and (parts["after"], None, parts["log"])

    def go(self, standing, deed):
        parts = due_step(self.program, self.rule, standing, deed, self.most)
        return parts and (parts["after"], parts["told"], parts["log"])


def true_body(program, name, words):
    """What a run of the body does where all it is told is true: (notes, says, writes, given)."""
    orders = orders_of(dict(program.derived + program.effects)[name], ())
    slots, notes, says, writes = {}, {}, [], []
    at = 0
    while at < len(orders):
        _, form, rest = orders[at]
        at += 1
        if form in ("read", "peek"):
            slots[rest[1]] = true_cell(program, rest[0], words)
            if form == "read":
                notes.setdefault(rest[0], slots[rest[1]])
        elif form == "put":
            slots[rest[0]] = rest[1]
        elif form == "jump":
            at = rest[0]
        elif form == "test":
            at = at if slots.get(rest[0], program.words[0]) == rest[1] else rest[2]
        elif form == "say":
            says.append(slots.get(rest[0], program.words[0]))
        elif form == "write":
            writes.append((rest[0], slots.get(rest[1], program.words[0])))
        else:
            return notes, says, writes, slots.get(rest[0], program.words[0])
    return notes, says, writes, program.words[0]


def true_cell(program, cell, words):
    """The true word, worked out from the sources anew each time."""
    if cell in program.sources:
        return words[program.sources.index(cell)]
    return true_body(program, cell, words)[3]


class PlainTold:
    """The plain machine, straight from points 40 to 43: everything that is to be done stands in one list."""

    def __init__(self, program, most):
        self.program, self.most = program, most

    def begin(self, words):
        runs = [("run", name) for name, _ in self.program.effects]
        found = self.work(dict(zip(self.program.sources, words)), {}, runs)
        return found and (found[0], None, found[1])

    def go(self, standing, deed):
        words, notes = standing
        if deed[0] == "read":
            return (standing, true_cell(self.program, deed[1], words), ())
        held = dict(zip(self.program.sources, words))
        kept = {name: dict(own) for (name, _), own in zip(self.program.effects, notes)}
        writes = [deed[1:]] if deed[0] == "write" else list(deed[1])
        found = self.work(held, kept, [("set", writes)])
        return found and (found[0], None, found[1])

    def work(self, held, kept, tasks):
        """Do the tasks; what they bring comes ahead of the other tasks (runs) or behind them (writes)."""
        log, left = [], self.most
        while tasks:
            form, what = tasks.pop(0)
            words = tuple(held[source] for source in self.program.sources)
            if form == "set":
                changes = {source: word for source, word in what if held[source] != word}
                held.update(changes)
                tasks = [("look", name) for name, _ in self.program.effects if changes] + tasks
                continue
            if form == "look" and all(true_cell(self.program, cell, words) == word
                                      for cell, word in kept[what].items()):
                continue
            if left == 0:
                return None
            left -= 1
            kept[what], says, writes, _ = true_body(self.program, what, words)
            log += [(what, word) for word in says]
            tasks = tasks + [("set", [write]) for write in writes]
        standing = (tuple(held[source] for source in self.program.sources),
                    tuple(tuple(kept[name].items()) for name, _ in self.program.effects))
        return standing, tuple(log)


class Compared:
    """All runs of two sides side by side, up to where they show a difference."""

    def __init__(self, program, moves, first, second, at_most=300):
        self.program, self.moves, self.at_most = program, moves, at_most
        self.sides = (first, second)
        self.known = {}
        self.best = {}
        self.apart = []
        for words in all_words(program):
            self.offer((words, ()), *(side.begin(words) for side in self.sides))
        self.done = {}
        while any(self.done.get(pair) != told for pair, told in self.best.items()):
            for pair, told in list(self.best.items())[::-1]:
                if self.done.get(pair) != told:
                    self.done[pair] = told
                    words, deeds = told[1]
                    for deed in moves:
                        self.offer((words, deeds + (deed,)), *self.shown(pair, deed), stay=pair)

    def shown(self, pair, deed):
        return [self.moved(index, standing, deed) for index, standing in enumerate(pair)]

    def moved(self, index, standing, deed):
        if (index, standing, deed) not in self.known:
            self.known[(index, standing, deed)] = self.sides[index].go(standing, deed)
        return self.known[(index, standing, deed)]

    def offer(self, run, one, two, stay=None):
        told = (key_of(self.program, self.moves, run), run)
        if (one and one[1:]) != (two and two[1:]):
            self.apart.append(told)
            return
        pair = (one[0], two[0]) if one else stay
        if pair is not None and (pair not in self.best or told < self.best[pair]):
            if len(self.best) == self.at_most:
                raise TooMany
            self.best[pair] = told

    def least(self):
        """The least run that shows a difference, or None."""
        return min(self.apart)[1] if self.apart else None

    def many_ahead(self):
        """The number of pairs of standings that are found ahead of that run."""
        return len([told for told in self.best.values() if not self.apart or told < min(self.apart)])


def changed_by_lines(program, changes):
    """The program with changes made in its text; the lines are marked with their paths."""
    heads = {}
    lines = []

    def put(path, rows):
        for place, row in enumerate(rows):
            at = path + (place,)
            lines.append((at, list(row[:3])))
            if row[0] == "if":
                put(at + (0,), row[3])
                lines.append((None, ["else"]))
                put(at + (1,), row[4])
                lines.append((None, ["end"]))

    for kind in ("derived", "effects"):
        for index, (name, rows) in enumerate(getattr(program, kind)):
            heads[(kind, index)] = []
            lines.append(((kind, index), [kind, name]))
            put((kind, index), rows)
    slots = {path: {items[2] if items[0] in ("read", "peek", "write") else items[1]
                    for at, items in lines if at and at[:2] == path and len(at) > 2} for path in heads}
    found = {path: items for path, items in lines if path}
    for word, path in changes:
        if word == "early":
            free = min(set("abcdefghijklmnopqrstuvwxyz") - slots[path[:2]])
            heads[path[:2]].append(["read", found[path][1], free])
    for word, path in changes:
        if word == "peek":
            found[path][0] = "peek"
    behind = []
    for path, items in lines:
        behind.append(items)
        behind.extend(heads.get(path, []))
    return program_of_lines(program, behind)


def program_of_lines(program, lines):
    """A program from lines of items; nothing is checked ahead of Program."""
    parts = {"derived": [], "effects": []}
    stack = []
    for items in lines:
        if items[0] in parts:
            stack = [[]]
            parts[items[0]].append((items[1], stack[0]))
        elif items[0] == "if":
            stack += [items, []]
        elif items[0] == "else":
            stack.append([])
        elif items[0] == "end":
            second, first, head = stack.pop(), stack.pop(), stack.pop()
            stack[-1].append(tuple(head) + (tuple(first), tuple(second)))
        else:
            stack[-1].append(tuple(items))
    derived, effects = (tuple((name, tuple(rows)) for name, rows in parts[kind]) for kind in ("derived", "effects"))
    return Program(program.words, program.sources, derived, effects)
