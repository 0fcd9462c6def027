"""Words of texts, and names."""

from anymaker.errors import BadText

KEPT = (
    "ahead", "anew", "ask", "body", "call", "do", "document", "down", "each", "else", "ever", "fill", "group",
    "if", "left", "less", "minus", "none", "order", "over", "part", "place", "plus", "program", "reads", "right",
    "run", "same", "set", "show", "then", "times", "up", "walk", "while", "whole", "width",
)
LETTERS = "abcdefghijklmnopqrstuvwxyz"


def is_name(thing):
    """Whether any value is a name: 1 to 8 letters that are no kept word."""
    if not isinstance(thing, str) or not 1 <= len(thing) <= 8:
        return False
    return all([letter in LETTERS for letter in thing]) and thing not in KEPT


def is_text(thing):
    return isinstance(thing, str) and all([sign == "\n" or " " <= sign <= "~" for sign in thing])


def words_of(text):
    """The words of a text as triples (word, line, column)."""
    if not is_text(text):
        raise BadText(None, None, None)
    found = []
    for row, line in enumerate(text.split("\n"), start=1):
        found.extend(words_of_line(line, row))
    return found


def words_of_line(line, row):
    found = []
    begin = None
    for at, sign in enumerate(line + " "):
        if sign != " " and begin is None:
            begin = at
        if sign == " " and begin is not None:
            found.append((line[begin:at], row, begin + 1))
            begin = None
    return found
