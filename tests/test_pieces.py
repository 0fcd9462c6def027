"""Point [74]: pieces and contexts."""

import unittest

from anymaker.errors import Unnamed
from anymaker.pieces import filled, is_context, is_piece
from anymaker.programs import is_program
from tests.nearly import STRANGE, nearly
from tests.samples import ASK, Maker, name, number, program, put, show, then

ONE = number(1)
HOLE = ("hole",)


def nodes_of(expression):
    from tests import model
    found = [expression]
    for at in model.INNER.get(expression[0], ()):
        found += nodes_of(expression[at])
    return found


def model_is_piece(thing):
    from anymaker.expressions import is_expression
    if not is_expression(thing):
        return False
    nodes = nodes_of(thing)
    if any(node[0] in ("call", "ask") or node[0] == "name" and len(node) == 3 for node in nodes):
        return False
    return len({node[1] for node in nodes if node[0] in ("name", "set", "each")}) <= 3


def model_is_context(thing):
    """Any one hole after the other is tried as a number."""
    try:
        if type(thing) is not tuple or len(thing) != 4 or type(thing[2]) is not tuple:
            return False
        made = ("program", thing[1], tuple((part, no_holes(one)) for part, one in thing[2]), no_holes(thing[3]))
    except (TypeError, ValueError, IndexError):
        return False
    if thing[0] != "program" or not is_program(made) or made == thing:
        return False
    if any(type(pair) is not tuple for pair in thing[2]):
        return False
    rows = [node for _, one in made[2] + (("body", made[3]),) for node in nodes_of(one)]
    return not any(node[0] == "name" and len(node) == 3 for node in rows)


def no_holes(expression):
    from tests import model
    if expression == HOLE and type(expression) is tuple:
        return ONE
    if type(expression) is not tuple or not expression or type(expression[0]) is not str:
        return expression
    inner = model.INNER.get(expression[0], ())
    return tuple(no_holes(one) if at in inner else one for at, one in enumerate(expression))


class PieceTest(unittest.TestCase):
    def test_pieces(self):
        for thing in (ONE, name("x"), ("plus", ONE, ONE, "left"), ("each", "x", 0, 1, ONE, "up"),
                      then(name("a"), put("b", ONE), ("each", "c", 0, 1, name("a"))), ("while", show(ONE), ONE)):
            self.assertIs(is_piece(thing), True)

    def test_no_pieces(self):
        for thing in STRANGE + (ASK, ("call", "p"), ("name", "x", 0), show(ASK), then(ONE, ("call", "p")), HOLE,
                                ("if", ONE, ONE, ("name", "x", 1)), then(name("a"), name("b"), name("c"), put("d", ONE)),
                                then(name("a"), name("b"), name("c"), ("each", "d", 0, 1, ONE)), program(ONE)):
            self.assertIs(is_piece(thing), False)

    def test_nearly_pieces(self):
        maker = Maker(51)
        for _ in range(40):
            thing = maker.expression(3, ("x", "y", "z"), asks=False, pins=False)
            self.assertTrue(is_piece(thing))
            for other in nearly(thing):
                self.assertIs(is_piece(other), model_is_piece(other), other)


class ContextTest(unittest.TestCase):
    def test_contexts(self):
        for thing in (program(HOLE), program(show(HOLE)), program(then(HOLE, HOLE), ("a", "b", "c", "d")),
                      program(("call", "p"), ("x",), (("p", HOLE),)), program(("plus", HOLE, ASK, "left")),
                      program(("while", HOLE, ("each", "x", 0, 1, HOLE))), program(ONE, ("x",), (("p", put("x", HOLE)),))):
            self.assertIs(is_context(thing), True, thing)

    def test_no_contexts(self):
        for thing in STRANGE + (program(ONE), program(("hole", 1)), program(["hole"]), program(then(HOLE, ("name", "x", 0))),
                                program(HOLE, ()), program(HOLE, ("x", "x")), program(then(HOLE, name("y"))), HOLE,
                                program(("set", HOLE, ONE)), program(("call", HOLE)), program(HOLE, ("x",), (("p", ("call", "p")),)),
                                program(HOLE, ("x",), (("p", ("name", "x", 1)),)), program((("hole",),)), program("hole"),
                                program(("number", HOLE)), program(("plus", ONE, ONE, HOLE)), list(program(HOLE)),
                                program(then(HOLE, ("call", "p")))):
            self.assertIs(is_context(thing), False, thing)

    def test_nearly_contexts(self):
        for thing in (program(then(HOLE, ("plus", name("x"), HOLE, "left")), ("x", "y"), (("p", show(HOLE)),)),
                      program(("call", "p"), ("x",), (("p", ("each", "x", 0, 1, HOLE)),))):
            self.assertTrue(is_context(thing))
            for other in nearly(thing):
                self.assertIs(is_context(other), model_is_context(other), other)


class FilledTest(unittest.TestCase):
    def test_each_hole(self):
        context = program(then(HOLE, ("while", HOLE, ("call", "p"))), ("x",), (("p", ("plus", HOLE, ASK, "left")),))
        piece = put("x", name("x"))
        found = filled(context=context, piece=piece)
        self.assertEqual(found, program(then(piece, ("while", piece, ("call", "p"))), ("x",), (("p", ("plus", piece, ASK, "left")),)))
        self.assertTrue(is_program(found))

    def test_a_variable_that_is_lacking(self):
        for piece, lacking in ((name("b"), "b"), (then(put("z", ONE), name("c"), name("x")), "c"),
                               (("each", "y", 0, 1, name("x")), "y"), (("plus", name("z"), put("y", ONE)), "y")):
            with self.assertRaises(Unnamed) as caught:
                filled(program(HOLE), piece)
            self.assertEqual(caught.exception.name, lacking)

    def test_pieces_without_variables(self):
        self.assertEqual(filled(program(HOLE), show(ONE)), program(show(ONE)))


if __name__ == "__main__":
    unittest.main()
