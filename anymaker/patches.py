"""Nodes of programs as rows of texts: which words tell a node, and rows cut out and put in."""

from anymaker.errors import BadPart, BadPath, BadThing
from anymaker.forms import is_word
from anymaker.programs import parts_of
from anymaker.reading import read_layout, read_rows, told_thing
from anymaker.trees import node_at
from anymaker.words import words_of

DEEPER = 2


def span(text, part, path):
    """The indexes of the first word of a node and of the word behind its last one."""
    seat = seat_of(text, part, path)
    return (seat.first_word(), seat.word_behind())


def cut(text, part, path):
    """The rows of a node, moved to the left."""
    seat = seat_of(text, part, path)
    words = words_of(text)
    _, row, column = words[seat.inner().first_word()]
    lines = text.split("\n")[row - 1:words[seat.word_behind() - 1][1]]
    return as_rows([" " * (column - 1) + lines[0][column - 1:]] + lines[1:], 0)


def put(text, part, path, rows):
    """The text with these rows in the place of a node."""
    seat = seat_of(text, part, path)
    told = read_rows(told_thing(seat.layout.root.listed[0]), part, rows)
    words = words_of(text)
    _, row, column = words[seat.first_word()]
    lines = text.split("\n")
    ahead = "\n".join(lines[:row - 1] + [lines[row - 1][:column - 1]])
    if told[0] == "then" and not seat.takes_several:
        inner = "group\n" + as_rows(rows.split("\n"), column - 1 + DEEPER)
    else:
        inner = as_rows(rows.split("\n"), column - 1)[column - 1:]
    if seat.word_behind() == len(words):
        return ahead + inner
    return ahead + inner + "\n".join(lines[words[seat.word_behind()][1] - 1:])


def as_rows(lines, depth):
    """The lines that have words, moved together, so that the leftmost one stands behind so many blanks."""
    rows = [line.rstrip(" ") for line in lines if line.strip(" ")]
    margin = min([len(line) - len(line.lstrip(" ")) for line in rows])
    return "".join([" " * depth + line[margin:] + "\n" for line in rows])


class Seat:
    """Where a node stands: the items from one on, of a block to its end, otherwise one alone.

    takes_several tells whether several items may stand in their place.
    """

    def __init__(self, layout, frames, takes_several):
        self.layout = layout
        self.frames = frames
        self.takes_several = takes_several

    def first_word(self):
        return self.frames[0].at

    def word_behind(self):
        return self.frames[-1].behind()

    def is_group(self):
        return len(self.frames) == 1 and self.frames[0].role == "group"

    def inner(self):
        """The same, for a group the items that it has."""
        return Seat(self.layout, self.frames[0].listed, True) if self.is_group() else self

    def child(self, at):
        """Where the child with this index of the node stands."""
        frames = self.inner().frames
        if len(frames) > 1:
            return self.other(frames[:1], False) if at == 1 else self.other(frames[1:], True)
        frame = frames[0]
        if frame.role == "each":
            return self.other(frame.listed, True)
        if frame.role in ("while", "if") and at > 1:
            return self.other(frame.rows[at - 2].listed, True)
        if frame.role in ("set", "show", "while", "if"):
            return self.other(frame.listed, False)
        return self.other(frame.listed[at - 1:at], False)

    def other(self, frames, takes_several):
        return Seat(self.layout, frames, takes_several)


def seat_of(text, part, path):
    """Where the node stands to which a path leads in this part of the program that a text tells."""
    layout = read_layout(text)
    thing = told_thing(layout.root.listed[0])
    if thing[0] != "program":
        raise BadThing("the text tells a document")
    names = [name for name, _ in parts_of(thing)]
    if not is_word(part, names):
        raise BadPart("no name of a part of the program")
    index = names.index(part)
    if node_at(parts_of(thing)[index][1], path) is None:
        raise BadPath("no path to a node of the part")
    seat = Seat(layout, layout.root.listed[0].rows[index].listed, True)
    for at in path:
        seat = seat.child(at)
    return seat
