"""Short ways to write programs and documents, and many small ones made from a seed."""

import random

OPERATIONS = ("plus", "minus", "times", "same", "less", "over")
ASK = ("ask",)


def number(n):
    return ("number", n)


def put(name, expression):
    return ("set", name, expression)


def name(x):
    return ("name", x)


def show(expression):
    return ("show", expression)


def then(*expressions):
    if len(expressions) == 1:
        return expressions[0]
    return ("then", expressions[0], then(*expressions[1:]))


def program(body, variables=("x",), parts=()):
    return ("program", variables, parts, body)


def document(order=("run", ("left",)), walk=("run", ("up",)), fill=("run", (0,)), width=("run", (1,)), ruin="ahead"):
    return ("document", order, walk, fill, width, ruin)


BIT = then(("plus", put("y", number(0)), put("y", number(1))), name("y"))
"""1 by left, 0 by right."""
SWAY = then(("each", "y", 0, 1, number(0)), name("y"))
"""1 by up, 0 by down."""


class Maker:
    """Makes small programs, pieces and documents, the same ones for the same seed."""

    def __init__(self, seed):
        self.random = random.Random(seed)

    def some(self, rows):
        return self.random.choice(rows)

    def options(self, all_options, most):
        many = self.random.randint(1, min(most, len(all_options)))
        return tuple(sorted(self.random.sample(all_options, many), key=all_options.index))

    def document(self, scopes=("ever", "program", "part", "place", "run", "anew"), fills=(0, 1, 2, 3, "none"),
                 widths=(1, 2), most=2):
        wide = [scope for scope in scopes if scope in ("ever", "program", "run")]
        return ("document", (self.some(scopes), self.options(("left", "right"), 2)),
                (self.some(scopes), self.options(("up", "down"), 2)),
                (self.some(scopes), self.options(fills, most)),
                (self.some(wide), self.options(widths, most)), self.some(("ahead", "whole")))

    def expression(self, depth, names, parts=(), asks=True, pins=True, loops=True):
        if depth == 0 or self.random.random() < 0.15:
            leaf = self.random.random()
            if leaf < 0.35:
                return number(self.random.randint(0, 3))
            if asks and leaf < 0.45:
                return ASK
            if parts and leaf < 0.55:
                return ("call", self.some(parts))
            if pins and leaf < 0.6:
                return ("name", self.some(names), self.random.randint(0, 3))
            return name(self.some(names))

        def inner():
            return self.expression(depth - 1, names, parts, asks, pins, loops)

        head = self.some(("op", "op", "set", "set", "show", "if", "then", "then", "each", "while"))
        if head == "while" and not loops:
            head = "then"
        if head == "op":
            pin = (self.some(("left", "right")),) if pins and self.random.random() < 0.2 else ()
            return (self.some(OPERATIONS), inner(), inner()) + pin
        if head == "set":
            return put(self.some(names), inner())
        if head == "show":
            return show(inner())
        if head == "if":
            return ("if", inner(), inner(), inner())
        if head == "each":
            low = self.random.randint(0, 2)
            pin = (self.some(("up", "down")),) if pins and self.random.random() < 0.2 else ()
            return ("each", self.some(names), low, low + self.random.randint(0, 1), inner()) + pin
        return (head, inner(), inner())

    def program(self, depth=3, names=("x", "y"), asks=True, pins=True, loops=True):
        parts = ()
        for part in ("p", "q")[:self.some((0, 0, 0, 1, 2))]:
            ahead = tuple(one for one, _ in parts)
            parts += ((part, self.expression(2, names, ahead, asks, pins, loops)),)
        ahead = tuple(one for one, _ in parts)
        return ("program", names, parts, self.expression(depth, names, ahead, asks, pins, loops))


def telling(maker, depth, parts=(), asks=True):
    """An expression that is worked out by orders and walks that tell themselves, and unset names."""
    if depth == 0:
        leaves = [BIT, BIT, SWAY, SWAY, name("x"), number(maker.some((0, 1, 2)))]
        leaves += [("call", part) for part in parts] * 2 + [ASK] * asks
        return maker.some(leaves)
    head = maker.some(("show", "show", "op", "if", "then", "while"))
    inner = [telling(maker, maker.some((0, depth - 1)), parts, asks) for _ in range(3)]
    if head == "op":
        return (maker.some(("plus", "minus", "same", "times", "over")), inner[0], inner[1]) + maker.some(((), ("left",), ("left",)))
    if head == "while":
        return ("while", inner[0], maker.some((number(0), put("x", number(0)), show(inner[1]))))
    return {"show": show(inner[0]), "if": ("if",) + tuple(inner), "then": then(*inner)}[head]


def telling_cases(seed, many, most, scopes=None, asks=True, fills=(0, 1, 2, 3, "none"), widths=(1, 2), choices_at_most=64):
    """So many pairs of a document and a program whose showings are told by options."""
    from anymaker.choices import choices
    maker = Maker(seed)
    found = []
    while len(found) < many:
        every = ("ever", "program", "part", "place", "run", "anew")
        ruling = maker.document(scopes or every, fills, widths)
        parts = tuple((part, telling(maker, 1, (), asks)) for part in ("p", "q")[:maker.some((0, 0, 1, 2))])
        body = telling(maker, 3, tuple(part for part, _ in parts), asks)
        pair = (ruling, ("program", ("x", "y"), parts, body))
        if few_standings(*pair, most) and len(choices(*pair)) <= choices_at_most:
            found.append(pair)
    return found


def few_standings(document, program, most):
    """Whether a program has at most so many choices, and standings by all of them together."""
    from anymaker.choices import choices
    from anymaker.errors import TooMany
    from anymaker.stepping import standings
    try:
        rows = choices(document, program)
        if len(rows) > most:
            return False
        return sum(len(standings(document, program, choice)) for choice in rows) <= most
    except TooMany:
        return False


def small_cases(seed, many, most, scopes=None, **told):
    """So many pairs of a document and a program that have few standings."""
    maker = Maker(seed)
    found = []
    while len(found) < many:
        ruling = maker.document() if scopes is None else maker.document(scopes)
        pair = (ruling, maker.program(**told))
        if few_standings(*pair, most):
            found.append(pair)
    return found
