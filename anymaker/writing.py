"""Programs and documents written as texts."""

from anymaker.documents import is_document
from anymaker.errors import BadThing
from anymaker.forms import KINDS, OPERATIONS
from anymaker.programs import is_program, parts_of


def text_of(thing):
    """The text in which each item begins a line."""
    if is_program(thing):
        return as_text(program_lines(thing))
    if is_document(thing):
        return as_text(document_lines(thing))
    raise BadThing("no program and no document")


def as_text(lines):
    """The text of pairs of how deep a line stands and its words."""
    return "".join(["  " * depth + " ".join([str(word) for word in words]) + "\n" for depth, words in lines])


def document_lines(document):
    rows = [(1, (kind, ruling[0]) + ruling[1]) for kind, ruling in zip(KINDS, document[1:5])]
    return [(0, ("document", document[5]))] + rows


def program_lines(program):
    lines = [(0, ("program",) + program[1])]
    for name, expression in parts_of(program):
        lines.append((0, ("body",) if name == "body" else ("part", name)))
        lines.extend(block_lines(expression, 1))
    return lines


def block_lines(expression, depth):
    """The lines of a block: what is done one behind another are its items."""
    lines = []
    while expression[0] == "then":
        lines.extend(item_lines(expression[1], depth))
        expression = expression[2]
    return lines + item_lines(expression, depth)


def item_lines(expression, depth):
    head = expression[0]
    if head == "then":
        return [(depth, ("group",))] + block_lines(expression, depth + 1)
    if head in ("number", "ask", "call"):
        return [(depth, expression[-1:] if head == "number" else expression)]
    if head == "name":
        return [(depth, expression[1:2] + tuple([word for one in expression[2:] for word in ("reads", one)]))]
    if head == "each":
        return [(depth, expression[:4] + expression[5:])] + block_lines(expression[4], depth + 1)
    if head in OPERATIONS:
        lines = [(depth, expression[:1] + expression[3:])]
        return lines + item_lines(expression[1], depth + 1) + item_lines(expression[2], depth + 1)
    if head in ("set", "show"):
        return [(depth, expression[:-1])] + item_lines(expression[-1], depth + 1)
    words = ("do",) if head == "while" else ("then", "else")
    lines = [(depth, (head,))] + item_lines(expression[1], depth + 1)
    for word, inner in zip(words, expression[2:]):
        lines.extend([(depth, (word,))] + block_lines(inner, depth + 1))
    return lines
