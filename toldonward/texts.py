"""Programs and lists of deeds as texts, and back."""

from toldonward.checks import is_name
from toldonward.errors import InvalidText
from toldonward.programs import Program

# The first word of each line behind the first two lines, and how many names stand behind it.
NAMES_BEHIND = {
    "derived": 1, "effect": 1, "read": 2, "peek": 2, "put": 2, "give": 1, "write": 2, "say": 1, "if": 2, "else": 0,
    "end": 0,
}


class OpenIf:
    """An if row whose end has not been read; the rows around it go on behind its end."""

    def __init__(self, head, around):
        self.head = head
        self.around = around
        self.first = []
        self.second = None


class Reader:
    """What the lines of a program have told so far."""

    def __init__(self):
        self.words = ()
        self.sources = ()
        self.derived = []
        self.effects = []
        # The list that the next row is put into; None ahead of the first body.
        self.rows = None
        self.ifs = []

    def take(self, number, items):
        """Take in the words of a line; True if the line is allowed."""
        if not all([is_name(item) for item in items[1:]]):
            return False
        if number == 1:
            self.words = tuple(items[1:])
            return items[0] == "words" and len(items) > 1
        if number == 2:
            self.sources = tuple(items[1:])
            return items[0] == "sources" and len(items) > 1
        if len(items) - 1 != NAMES_BEHIND.get(items[0]):
            return False
        if items[0] in ("derived", "effect"):
            return self.take_head(items[0], items[1])
        return self.rows is not None and self.take_row(items)

    def take_head(self, word, name):
        """Take in the line that begins a body."""
        if len(self.ifs) > 0 or (word == "derived" and len(self.effects) > 0):
            return False
        self.rows = []
        pairs = self.derived if word == "derived" else self.effects
        pairs.append((name, self.rows))
        return True

    def take_row(self, items):
        """Take in a line of a body."""
        if items[0] == "if":
            self.ifs.append(OpenIf(tuple(items), self.rows))
            self.rows = self.ifs[-1].first
        elif items[0] == "else":
            if len(self.ifs) == 0 or self.ifs[-1].second is not None:
                return False
            self.rows = []
            self.ifs[-1].second = self.rows
        elif items[0] == "end":
            if len(self.ifs) == 0 or self.ifs[-1].second is None:
                return False
            ended = self.ifs.pop()
            self.rows = ended.around
            self.rows.append(ended.head + (tuple(ended.first), tuple(ended.second)))
        else:
            self.rows.append(tuple(items))
        return True

    def finish(self):
        """The program that was read; its parts may still be wrong."""
        return Program(self.words, self.sources, finished(self.derived), finished(self.effects))


def finished(pairs):
    return tuple([(name, tuple(rows)) for name, rows in pairs])


def lines_of(text):
    """The lines of a text that is not empty; each of them ends with a newline."""
    if not text.endswith("\n"):
        raise InvalidText(0)
    return text[:-1].split("\n")


def parse_program(text):
    """The program that the text describes."""
    lines = lines_of(text)
    reader = Reader()
    for index, line in enumerate(lines):
        if not reader.take(index + 1, line.split(" ")):
            raise InvalidText(index + 1)
    if len(lines) == 1 or len(reader.ifs) > 0:
        raise InvalidText(len(lines) + 1)
    return reader.finish()


def format_program(program):
    """The text of the program."""
    lines = [" ".join(("words",) + program.words), " ".join(("sources",) + program.sources)]
    for word, pairs in (("derived", program.derived), ("effect", program.effects)):
        for name, rows in pairs:
            lines.append(word + " " + name)
            lines.extend(lines_of_rows(rows))
    return joined(lines)


def lines_of_rows(rows):
    lines = []
    for row in rows:
        if row[0] == "if":
            lines.append(" ".join(row[:3]))
            lines.extend(lines_of_rows(row[3]))
            lines.append("else")
            lines.extend(lines_of_rows(row[4]))
            lines.append("end")
        else:
            lines.append(" ".join(row))
    return lines


def joined(lines):
    """The text of the lines, each followed by a newline."""
    return "".join([line + "\n" for line in lines])


def format_deeds(deeds):
    """The text of the deeds."""
    return joined([line_of_deed(deed) for deed in deeds])


def line_of_deed(deed):
    items = list(deed)
    if deed[0] == "batch":
        items = ["batch"]
        for write in deed[1]:
            items.extend(write)
    return " ".join(items)


def parse_deeds(text):
    """The deeds that the text describes, a list."""
    deeds = []
    if text != "":
        for index, line in enumerate(lines_of(text)):
            deed = deed_of(line.split(" "))
            if deed is None:
                raise InvalidText(index + 1)
            deeds.append(deed)
    return deeds


def deed_of(items):
    """The deed of a line with these words; None if there is none."""
    names = tuple(items[1:])
    if not all([is_name(name) for name in names]):
        return None
    if (items[0] == "write" and len(names) == 2) or (items[0] == "read" and len(names) == 1):
        return tuple(items)
    if items[0] != "batch" or len(names) == 0 or len(names) % 2 == 1:
        return None
    sources = names[::2]
    if len(set(sources)) < len(sources):
        return None
    return ("batch", tuple(zip(sources, names[1::2])))
