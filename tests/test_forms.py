"""Points [3], [5] to [9]: numbers, kinds, expressions, programs, places, documents."""

import unittest

from anymaker.documents import is_document
from anymaker.errors import BadKind, BadProgram
from anymaker.expressions import is_expression
from anymaker.programs import is_program, places
from tests import model
from tests.nearly import STRANGE, nearly
from tests.samples import ASK, Maker, document, name, number, program, put, show, then

ONE = number(1)
OPERATIONS = ("plus", "minus", "times", "same", "less", "over")


def model_is_number(thing, low, high):
    return type(thing) is int and low <= thing <= high


def model_is_name(thing):
    from anymaker.words import KEPT
    return type(thing) is str and 1 <= len(thing) <= 8 and all("a" <= one <= "z" for one in thing) and thing not in KEPT


def model_is_expression(thing):
    """Written by cases, from point [6]."""
    if type(thing) is not tuple or not thing or type(thing[0]) is not str:
        return False
    head, rest = thing[0], thing[1:]
    inner = model_is_expression
    if head == "number":
        return len(rest) == 1 and model_is_number(rest[0], 0, 7)
    if head == "name":
        return len(rest) in (1, 2) and model_is_name(rest[0]) and all(model_is_number(n, 0, 3) for n in rest[1:])
    if head == "set":
        return len(rest) == 2 and model_is_name(rest[0]) and inner(rest[1])
    if head == "show":
        return len(rest) == 1 and inner(rest[0])
    if head == "ask":
        return rest == ()
    if head == "if":
        return len(rest) == 3 and all(inner(one) for one in rest)
    if head in ("then", "while"):
        return len(rest) == 2 and all(inner(one) for one in rest)
    if head == "call":
        return len(rest) == 1 and model_is_name(rest[0])
    if head in OPERATIONS:
        return len(rest) in (2, 3) and inner(rest[0]) and inner(rest[1]) and all(
            type(one) is str and one in ("left", "right") for one in rest[2:])
    if head == "each":
        return (len(rest) in (4, 5) and model_is_name(rest[0]) and model_is_number(rest[1], 0, 7)
                and model_is_number(rest[2], rest[1], 7) and inner(rest[3])
                and all(type(one) is str and one in ("up", "down") for one in rest[4:]))
    return False


class ExpressionTest(unittest.TestCase):
    def test_expressions(self):
        for thing in (number(0), number(7), name("x"), ("name", "x", 0), ("name", "x", 3), put("x", ONE), show(ONE),
                      ASK, ("if", ONE, ASK, name("y")), ("then", ONE, ONE), ("while", ONE, ONE), ("call", "p"),
                      ("each", "x", 0, 7, ONE), ("each", "x", 7, 7, ONE, "down"), ("each", "x", 0, 0, ONE, "up")):
            self.assertIs(is_expression(thing), True, thing)
        for operation in OPERATIONS:
            for pin in ((), ("left",), ("right",)):
                self.assertIs(is_expression((operation, ONE, name("x")) + pin), True)

    def test_no_expressions(self):
        for thing in STRANGE:
            self.assertIs(is_expression(thing), False, thing)
        for thing in (["number", 1], ("number", True), ("number", 8), ("number", -1), ("number", "1"), ("number",),
                      ("number", 1, 1), ("name", "body"), ("name", "x", 4), ("name", "x", "none"), ("name", "x", True),
                      ("name", "x", None), ("set", "x", ["number", 1]), ("set", "anew", ONE), ("show", ()), ("ask", 1),
                      ("if", ONE, ONE), ("then", ONE), ("while", ONE, ONE, ONE), ("call", "body"), ("call", 1),
                      ("each", "x", 1, 0, ONE), ("each", "x", 0, 8, ONE), ("each", "x", -1, 0, ONE),
                      ("each", "x", False, 1, ONE), ("each", "x", 0, 1, ONE, "left"), ("plus", ONE, ONE, "up"),
                      ("plus", ONE), ("plus", ONE, ONE, "left", "left"), ("hole",), ("power", ONE, ONE), (b"ask",),
                      ("plus", ONE, ONE, ("body", ())), ("plus", [], ONE), ("plus", ONE, None)):
            self.assertIs(is_expression(thing), False, thing)

    def test_deep_expressions(self):
        deep = ONE
        for _ in range(59):
            deep = show(deep)
        self.assertTrue(is_expression(deep))
        bad = ("number", 8)
        for _ in range(59):
            bad = show(bad)
        self.assertFalse(is_expression(bad))

    def test_nearly_expressions(self):
        maker = Maker(3)
        for _ in range(60):
            thing = maker.expression(3, ("x", "y"), ("p",))
            self.assertTrue(is_expression(thing))
            for other in nearly(thing):
                self.assertIs(is_expression(other), model_is_expression(other), other)


class ProgramTest(unittest.TestCase):
    def test_programs(self):
        part = ("p", name("x"))
        for thing in (program(ONE), program(name("d"), ("a", "b", "c", "d")), program(("call", "p"), ("x",), (part,)),
                      program(ONE, ("p",), (("p", name("p")),)),
                      program(("call", "f"), ("x",), tuple((one, ONE) for one in "abcdef")),
                      program(ONE, ("x",), (part, ("q", ("call", "p"))))):
            self.assertIs(is_program(thing), True, thing)

    def test_no_programs(self):
        part = ("p", name("x"))
        for thing in STRANGE:
            self.assertIs(is_program(thing), False)
        for thing in (program(ONE, ()), program(ONE, tuple("abcde")), program(ONE, ("x", "x")), program(ONE, ["x"]),
                      program(ONE, ("x",), [part]), program(ONE, ("x",), (["p", ONE],)), program(ONE, ("X",)),
                      program(ONE, ("x",), (part, part)), program(ONE, ("x",), (("body", ONE),)),
                      program(ONE, ("x",), tuple((one, ONE) for one in "abcdefg")), program(name("y")),
                      program(put("y", ONE)), program(("each", "y", 0, 1, ONE)), program(("call", "p")),
                      program(ONE, ("x",), (("p", ("call", "p")),)), program(("hole",)), ("program", ("x",), ()),
                      program(ONE, ("x",), (("p", ("call", "q")), ("q", ONE))), ["program", ("x",), (), ONE],
                      program(ONE, ("x",), (("p", name("y")),)), ("programs", ("x",), (), ONE), program(("number", 9)),
                      program(ONE, ("x",), (part,)) + (ONE,), program(ONE, (1,)), program(ONE, ("x",), ("p",))):
            self.assertIs(is_program(thing), False, thing)

    def test_places(self):
        thing = program(("plus", name("x"), ("each", "x", 0, 1, ("less", ("name", "x", 1), name("x")))), ("x",),
                        (("p", ("minus", ONE, ("over", ONE, ONE), "left")), ("q", ("each", "x", 0, 1, ONE, "up"))))
        self.assertEqual(places(thing, "order"), (("p", (2,)), ("body", ()), ("body", (2, 4))))
        self.assertEqual(places(thing, "walk"), (("body", (2,)),))
        self.assertEqual(places(thing, "fill"), (("body", (1,)), ("body", (2, 4, 2))))
        self.assertEqual(places(program=program(ONE), kind="fill"), ())

    def test_places_of_many_programs(self):
        maker = Maker(4)
        for _ in range(80):
            thing = maker.program()
            for kind in ("order", "walk", "fill"):
                found = places(thing, kind)
                self.assertEqual(found, model.places(thing, kind))
                part_names = [part for part, _ in thing[2]] + ["body"]
                self.assertEqual(list(found), sorted(found, key=lambda place: (part_names.index(place[0]), place[1])))

    def test_wrong_places(self):
        for kind in STRANGE + ("width", "fills", "Order"):
            with self.assertRaises(BadKind):
                places(program(ONE), kind)
        with self.assertRaises(BadProgram):
            places(("program",), "width")


class DocumentTest(unittest.TestCase):
    def test_documents(self):
        for scope in ("ever", "program", "part", "place", "run", "anew"):
            for thing in (document(order=(scope, ("left", "right"))), document(walk=(scope, ("down",))),
                          document(fill=(scope, (0, 1, 2, 3, "none"))), document(fill=(scope, ("none",)))):
                self.assertIs(is_document(thing), True)
            self.assertIs(is_document(document(width=(scope, (1, 2, 3)))), scope in ("ever", "program", "run"))
        self.assertTrue(is_document(document(ruin="whole")))

    def test_no_documents(self):
        for thing in STRANGE:
            self.assertIs(is_document(thing), False)
        for thing in (document(order=("run", ())), document(order=("run", ("right", "left"))), document(ruin="none"),
                      document(order=("run", ("left", "left"))), document(order=("run", ["left"])),
                      document(order=["run", ("left",)]), document(order=("never", ("left",))),
                      document(walk=("run", ("left",))), document(fill=("run", (1, 0))), document(fill=("run", (False,))),
                      document(fill=("run", ("none", 0))), document(fill=("run", (4,))), document(width=("run", (0, 1))),
                      document(width=("run", (True,))), document(width=("run", (4,))), document(width=("run", (2, 1))),
                      document(width=("anew", (1,))), document(order=("run", ("up",))), document(fill=("run", (None,))),
                      document()[:-1], document() + ("ahead",), list(document()), document(order=("run", "left"))):
            self.assertIs(is_document(thing), False, thing)

    def test_nearly_documents(self):
        for thing in (document(), document(("anew", ("left", "right")), ("place", ("up", "down")), ("part", (0, 2, "none")),
                                           ("ever", (1, 3)), "whole")):
            for other in nearly(thing):
                self.assertIs(is_document(other), model_is_document(other), other)


def model_is_document(thing):
    """By listing all: each pair is one of all that there are."""
    from itertools import combinations
    every = {"order": ("left", "right"), "walk": ("up", "down"), "fill": (0, 1, 2, 3, "none"), "width": (1, 2, 3)}
    scopes = ("ever", "program", "run", "part", "place", "anew")
    if type(thing) is not tuple or len(thing) != 6:
        return False
    for kind, pair in zip(every, thing[1:5]):
        all_pairs = [(scope, options) for scope in scopes[:3 if kind == "width" else 6]
                     for many in range(1, 6) for options in combinations(every[kind], many)]
        if repr(pair) not in [repr(one) for one in all_pairs]:
            return False
    return thing[0] == "document" and thing[5] in ("ahead", "whole")


if __name__ == "__main__":
    unittest.main()
