"""Whole texts that go on from beginnings."""

from anymaker.frames import NAME
from anymaker.layout import END
from anymaker.reading import laid_out
from anymaker.words import LETTERS

SHORTEST = ("0", "body", "program")


def completed(text):
    """A whole text that begins with this one, but for blanks and line feeds behind its last word."""
    layout = laid_out(text)
    found = text.rstrip(" \n")
    here, below = layout.all_wanted()
    while END not in here:
        if below:
            word = chosen(layout, below[0][2])
            line, column = layout.line + (1 if found else 0), below[0][0]
            found = found + ("\n" if found else "") + " " * (column - 1) + word
        else:
            word = chosen(layout, here)
            line, column = layout.line, layout.column + 1
            found = found + " " + word
        layout.take(word, line, column)
        here, below = layout.all_wanted()
    return found + "\n"


def chosen(layout, words):
    """The wanted word behind which the least has to follow: what has to come stands outermost."""
    if NAME in words:
        return [letter for letter in LETTERS if letter not in layout.taken_names()][0]
    shortest = [word for word in SHORTEST if word in words]
    return (shortest + list(words))[0]
