"""Texts read as programs and documents."""

from anymaker.errors import BadPart, BadText
from anymaker.forms import KINDS, OPERATIONS, is_word
from anymaker.judging import judge_program
from anymaker.layout import Layout
from anymaker.programs import parts_of
from anymaker.words import words_of


def can_follow(text):
    """What is wanted behind all words."""
    return laid_out(text).all_wanted()


def laid_out(text):
    """The layout of the words of a text, which all can stand."""
    return filled_layout(Layout("text", [], []), text)


def filled_layout(layout, text):
    for word, line, column in words_of(text):
        if not layout.take(word, line, column):
            raise BadText(line, column, layout.all_wanted())
    return layout


def whole_layout(layout, text):
    """The layout of a text that is whole."""
    filled_layout(layout, text)
    if not layout.is_complete():
        raise BadText(layout.line, layout.column, layout.all_wanted())
    return layout


def read(text):
    """The program or document that is told."""
    return told_thing(read_layout(text).root.listed[0])


def read_layout(text):
    return whole_layout(Layout("text", [], []), text)


def read_rows(program, part, text):
    """What a text tells that is a block alone, as one of this part of the program."""
    judge_program(program)
    names = [name for name, _ in parts_of(program)]
    if not is_word(part, names):
        raise BadPart("no name of a part of the program")
    layout = whole_layout(Layout("rows", list(program[1]), names[:names.index(part)]), text)
    return told_block(layout.root.listed)


def told_thing(frame):
    """The program or document of its frame."""
    if frame.role == "document":
        return ("document",) + tuple([told_ruling(row) for row in frame.listed]) + (frame.own_words[0],)
    parts = [(row.own_words[0], told_block(row.listed)) for row in frame.rows[:-1]]
    return ("program", tuple(frame.own_words), tuple(parts), told_block(frame.rows[-1].listed))


def told_ruling(frame):
    return (frame.own_words[0], tuple([told_option(frame.role, word) for word in frame.own_words[1:]]))


def told_option(kind, word):
    """The option of a kind that a word tells."""
    if kind in KINDS[2:] and word != "none":
        return int(word)
    return word


def told_block(frames):
    """The expression of the items of a block: several are done one behind another."""
    found = told_item(frames[-1])
    for frame in reversed(frames[:-1]):
        found = ("then", told_item(frame), found)
    return found


def told_item(frame):
    """The expression of an item."""
    if frame.role == "group":
        return told_block(frame.listed)
    if frame.role == "each":
        return told_head(frame, (told_block(frame.listed),))
    inner = [told_item(item) for item in frame.listed] + [told_block(row.listed) for row in frame.rows]
    return told_head(frame, tuple(inner))


def told_head(frame, inner):
    """The expression of a head that is no group, by the expressions inside it."""
    own = tuple(frame.own_words)
    if frame.role == "number":
        return ("number", int(frame.word))
    if frame.role == "variable":
        return ("name", frame.word) + tuple([int(word) for word in own[1:]])
    if frame.role == "each":
        return ("each", own[0], int(own[1]), int(own[2])) + inner + own[3:]
    if frame.role in OPERATIONS:
        return (frame.role,) + inner + own
    return (frame.role,) + own + inner
