"""Texts by indents once more: read by columns straight from the words of [21] and [22], and written at random columns."""

from tests import model
from tests.samples import Maker

FIGURES = "01234567"
SCOPES = ("ever", "program", "part", "place", "run", "anew")
OPTIONS = {"order": ("left", "right"), "walk": ("up", "down"), "fill": ("0", "1", "2", "3", "none"), "width": ("1", "2", "3")}
KINDS = ("order", "walk", "fill", "width")


class NotWhole(Exception):
    pass


def tokens_of(text):
    """(word, line, column, whether it is the first one of its line)."""
    found = []
    for row, line in enumerate(text.split("\n"), 1):
        at, first = 0, True
        while at < len(line):
            if line[at] == " ":
                at += 1
                continue
            end = at
            while end < len(line) and line[end] != " ":
                end += 1
            found.append((line[at:end], row, at + 1, first))
            first, at = False, end
    return found


class Reader:
    def __init__(self, text, names=(), ahead=()):
        self.tokens = tokens_of(text)
        self.at = 0
        self.names, self.ahead = list(names), list(ahead)

    def fail(self):
        raise NotWhole(self.at)

    def peek(self):
        return self.tokens[self.at] if self.at < len(self.tokens) else (None, 0, 0, False)

    def own(self, fits):
        """The next word, which stands in the line of the one ahead."""
        word, line, _, _ = self.peek()
        if word is None or line != self.tokens[self.at - 1][1] or not fits(word):
            self.fail()
        self.at += 1
        return word

    def may_own(self, words):
        word, line, _, _ = self.peek()
        if word in words and line == self.tokens[self.at - 1][1]:
            self.at += 1
            return (word,)
        return ()

    def row(self, word, column):
        """A word that begins a line at this column."""
        if self.peek()[:1] + self.peek()[2:] != (word, column, True):
            self.fail()
        self.at += 1

    def listing(self, column, many, block):
        """So many items, or one and more, all at one column; whether each one is a group."""
        found, here = [], None
        while True:
            word, line, place, first = self.peek()
            if here is None:
                if word is None or not first and line != self.tokens[self.at - 1][1] or place <= column:
                    self.fail()
                here = place
            elif many is not None and len(found) == many or word is None or not first or place != here:
                break
            found.append((word == "group", self.item()))
            if many is not None and len(found) == many and not block:
                break
        if len(found) < (many or 1):
            self.fail()
        return found

    def block(self, column, fewest=1):
        found = self.listing(column, None, True)
        if found[-1][0] or len(found) < fewest:
            self.fail()
        result = found[-1][1]
        for _, item in found[-2::-1]:
            result = ("then", item, result)
        return result

    def items(self, column, many):
        return tuple(item for _, item in self.listing(column, many, False))

    def item(self):
        head, _, column, _ = self.peek()
        self.at += 1
        if head in FIGURES and len(head) == 1:
            return ("number", int(head))
        if head in self.names:
            if self.may_own(("reads",)):
                return ("name", head, int(self.own(lambda word: word in ("0", "1", "2", "3"))))
            return ("name", head)
        if head == "ask":
            return ("ask",)
        if head == "call":
            return ("call", self.own(lambda word: word in self.ahead))
        if head in model.OPERATIONS:
            pin = self.may_own(("left", "right"))
            return (head,) + self.items(column, 2) + pin
        if head == "set":
            variable = self.own(lambda word: word in self.names)
            return ("set", variable) + self.items(column, 1)
        if head == "show":
            return ("show",) + self.items(column, 1)
        if head == "each":
            variable = self.own(lambda word: word in self.names)
            low = self.own(lambda word: word in FIGURES and len(word) == 1)
            high = self.own(lambda word: word in FIGURES and len(word) == 1 and word >= low)
            pin = self.may_own(("up", "down"))
            return ("each", variable, int(low), int(high), self.block(column)) + pin
        if head == "group":
            return self.block(column, 2)
        if head not in ("while", "if"):
            self.fail()
        found = (head,) + self.items(column, 1)
        for word in ("do",) if head == "while" else ("then", "else"):
            self.row(word, column)
            found += (self.block(column),)
        return found

    def program(self, column):
        from anymaker.words import is_name
        while len(self.names) < 4 and (not self.names or not self.peek()[3] and self.peek()[0] is not None):
            self.names.append(self.own(lambda word: is_name(word) and word not in self.names))
        parts = []
        while self.peek()[0] == "part" and len(parts) < 6:
            self.row("part", column)
            taken = [name for name, _ in parts]
            name = self.own(lambda word: is_name(word) and word not in taken)
            self.ahead = taken
            parts.append((name, self.block(column)))
        self.row("body", column)
        self.ahead = [name for name, _ in parts]
        return ("program", tuple(self.names), tuple(parts), self.block(column))

    def document(self, column):
        ruin = self.own(lambda word: word in ("ahead", "whole"))
        rows, here = [], None
        for kind in KINDS:
            word, line, place, first = self.peek()
            fine = place == here and first if here else place > column and (first or line == self.tokens[self.at - 1][1])
            if word != kind or not fine:
                self.fail()
            here = place
            self.at += 1
            scopes = SCOPES if kind != "width" else ("ever", "program", "run")
            scope = self.own(lambda word: word in scopes)
            options = [self.own(lambda word: word in OPTIONS[kind])]
            while self.peek()[0] is not None and not self.peek()[3]:
                options.append(self.own(lambda word: word in OPTIONS[kind][OPTIONS[kind].index(options[-1]) + 1:]))
            rows.append((scope, tuple(int(one) if one.isdigit() else one for one in options)))
        return ("document",) + tuple(rows) + (ruin,)

    def whole(self):
        word, _, column, _ = self.peek()
        self.at += 1
        if word not in ("program", "document"):
            self.fail()
        found = self.program(column) if word == "program" else self.document(column)
        return self.over(found)

    def over(self, found):
        if self.at < len(self.tokens):
            self.fail()
        return found

    def rows(self):
        if not self.tokens:
            self.fail()
        self.tokens[0] = self.tokens[0][:3] + (True,)
        return self.over(self.block(0))


def model_read(text):
    """What a text tells, None if it is not whole."""
    try:
        return Reader(text).whole()
    except NotWhole:
        return None


def model_rows(text, names, ahead):
    try:
        return Reader(text, names, ahead).rows()
    except NotWhole:
        return None


class Writer:
    """Writes things at columns that a seed chooses."""

    def __init__(self, seed):
        self.maker = Maker(seed)
        self.rows = []

    def some(self, rows):
        return self.maker.some(rows)

    def line(self, column, words):
        self.rows.append(" " * (column - 1))
        self.add(words, True)
        return column

    def add(self, words, first=False):
        """Words behind the last one of the last line; the column of the first of them."""
        begin = None
        for word in words:
            if not first:
                self.rows[-1] += " " * self.some((1, 1, 1, 2, 4))
            first = False
            begin = begin or len(self.rows[-1]) + 1
            self.rows[-1] += str(word)
        return begin

    def listing(self, column, items, put):
        """Items at one column; the first one may stand in the line of the head."""
        if self.some((True, False)):
            here = None
        else:
            here = column + self.some((1, 1, 2, 3, 7))
        for item in items:
            here = put(item, here)

    def head(self, words, column):
        return self.add(words) if column is None else self.line(column, words)

    def block(self, column, expression):
        items = []
        while expression[0] == "then":
            items.append(expression[1])
            expression = expression[2]
        self.listing(column, items + [expression], self.item)

    def item(self, node, column):
        head = node[0]
        if head == "then":
            here = self.head(["group"], column)
            self.block(here, node)
        elif head in ("number", "ask", "call", "name"):
            words = {"number": node[1:], "ask": ("ask",), "call": node}.get(head)
            here = self.head(words or node[1:2] + (("reads", node[2]) if len(node) == 3 else ()), column)
        elif head in model.OPERATIONS:
            here = self.head(node[:1] + node[3:], column)
            self.listing(here, node[1:3], self.item)
        elif head in ("set", "show"):
            here = self.head(node[:-1], column)
            self.listing(here, node[-1:], self.item)
        elif head == "each":
            here = self.head(node[:4] + node[5:], column)
            self.block(here, node[4])
        else:
            here = self.head(node[:1], column)
            self.listing(here, node[1:2], self.item)
            for word, inner in zip(("do",) if head == "while" else ("then", "else"), node[2:]):
                self.line(here, [word])
                self.block(here, inner)
        return here

    def text(self, thing):
        self.rows = []
        column = self.some((1, 1, 2, 5))
        if thing[0] == "program":
            self.line(column, ("program",) + thing[1])
            for name, expression in model.parts_of(thing).items():
                self.line(column, ("body",) if name == "body" else ("part", name))
                self.block(column, expression)
        else:
            self.line(column, ("document", thing[5]))
            self.listing(column, list(zip(KINDS, thing[1:5])), lambda row, here: self.head((row[0], row[1][0]) + row[1][1], here))
        return self.spaced()

    def rows_of(self, expression):
        """Rows that are a block alone."""
        self.rows = []
        items = []
        while expression[0] == "then":
            items.append(expression[1])
            expression = expression[2]
        column = self.some((1, 2, 6))
        for item in items + [expression]:
            self.item(item, column)
        return self.spaced()

    def spaced(self):
        """The rows with blanks at line ends and empty lines here and there."""
        found = []
        for row in self.rows:
            found += [" " * self.some((0, 3))] * self.some((0, 0, 0, 1))
            found.append(row + " " * self.some((0, 0, 2)))
        return "\n".join(found) + self.some(("", "\n", "\n\n  "))


def small_thing(maker):
    """A program or a document that texts tell."""
    if maker.random.random() < 0.2:
        return maker.document(widths=(1, 2, 3), most=4)
    if maker.random.random() < 0.5:
        return nested(maker)
    return maker.program(maker.some((1, 2, 3)), maker.some((("x",), ("x", "y"), ("doo", "x", "zz", "abcdefgh"))))


def nested(maker):
    """A program of loops, tests and rows, whose words tell several programs."""
    def go(depth):
        if depth == 0:
            return maker.some((("name", "x"), ("number", 3), ("ask",), ("name", "x", 1)))
        inner = [go(maker.some((0, depth - 1))) for _ in range(3)]
        return maker.some((("then", inner[0], inner[1]), ("then", inner[0], ("then", inner[1], inner[2])), ("while", inner[0], inner[1]),
                           ("if",) + tuple(inner), ("show", inner[0]), ("each", "x", 0, 3, inner[0]), ("plus", inner[0], inner[1])))
    return ("program", ("x",), (), go(3))
