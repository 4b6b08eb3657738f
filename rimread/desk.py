"""A desk keeps a bench, is told rows of text, and answers each with a text."""

from rimread.bench import Bench
from rimread.errors import NoRow, NotLean
from rimread.judging import judged
from rimread.leaning import made_lean
from rimread.notes import grid_shown, net_read, net_shown
from rimread.reading import worths_read
from rimread.writing import fraction_from_text, fraction_shown, whole_from_text, whole_shown, worth_from_text

MOST_ROWS = 6
TEXT_AHEAD = "net\n"
DEED_WORDS = {
    "lay": ("name", "number", "name", "number", "name", "worth"),
    "grow": ("name", "number", "name", "worth", "name"),
    "cut": ("name",),
    "weigh": ("name", "worth"),
    "loop": ("name",),
    "dead": ("name",),
    "chain": ("name",),
    "twins": ("name", "name"),
    "star": ("name",),
    "ring": ("name", "name", "name", "name"),
}


# Split at each blank: beside a blank too many stands a word without signs, and counts like the others.
def words_of(row):
    if "\n" in row:
        raise NoRow("only a row that tells a net has a line feed")
    return row.split(" ")


# Whether a name is one, the deed itself tells, also of a word without signs.
def word_read(word, kind):
    value = word
    if kind == "number":
        value = whole_from_text(word)
    if kind == "worth":
        value = worth_from_text(word)
    if value is None:
        raise NoRow("a number or worth is written otherwise")
    return value


def deed_of(words):
    kinds = DEED_WORDS[words[0]]
    if len(words) - 1 != len(kinds):
        raise NoRow("the row has another count of words")
    told = [word_read(word, kind) for word, kind in zip(words[1:], kinds)]
    if words[0] == "lay":
        return ("lay", (told[0], told[1]), (told[2], told[3]), told[4], told[5])
    if words[0] == "grow":
        return ("grow", (told[0], told[1]), told[2], told[3], told[4])
    return tuple([words[0]] + told)


def table_of(words):
    sizes = [size for size in range(1, MOST_ROWS + 1) if size * size == len(words)]
    entries = [fraction_from_text(word) for word in words]
    if len(sizes) == 0 or any([entry is None for entry in entries]):
        raise NoRow("a table is told as n times n fractions, n from 1 to 6")
    return [entries[start:start + sizes[0]] for start in range(0, len(entries), sizes[0])]


def verdict_shown(verdict):
    numbers = []
    if verdict[0] == "minor":
        numbers = verdict[1] + verdict[2]
    elif verdict[0] != "net":
        numbers = list(verdict[1:])
    return " ".join([verdict[0]] + [whole_shown(number) for number in numbers])


def line_shown(line):
    if line[0] is None:
        return "closed"
    first = whole_shown(line[0])
    last = whole_shown(line[1])
    return f"{first}-{last}"


class Desk:
    def __init__(self):
        self.bench = Bench((["a"], [("a", [])], []))

    def say(self, row):
        if row.startswith(TEXT_AHEAD):
            self.bench = Bench(net_read(row[len(TEXT_AHEAD):]))
            return "ok"
        words = words_of(row)
        if words[0] in DEED_WORDS:
            self.bench.do(deed_of(words))
            return "ok"
        if words[0] == "judge":
            return verdict_shown(judged(table_of(words[1:])))
        if len(words) > 1:
            raise NoRow("there is no such row")
        return self.asked(words[0])

    def asked(self, word):
        if word == "show":
            return net_shown(self.bench.net())
        if word == "table":
            return grid_shown(self.bench.table())
        if word == "lean":
            return "yes" if self.bench.lean() else "no"
        if word == "lines":
            return " ".join([line_shown(line) for line in self.bench.lines()])
        if word == "thin":
            return self.thinned()
        if word == "read":
            return self.worths_shown()
        raise NoRow("there is no such row")

    def thinned(self):
        led = made_lean(self.bench.net())
        self.bench = Bench(led[1])
        return whole_shown(len(led[0]))

    def worths_shown(self):
        if not self.bench.lean():
            raise NotLean("worths are read back of lean nets")
        worths = worths_read(self.bench.net(), self.bench.table())
        return "\n".join([wire + " " + fraction_shown(worth) for wire, worth in worths])
