"""Points [70], [73]: bases, and documents in which "none" swallows."""

import unittest

from anymaker.bases import bases, swallowed
from anymaker.choices import choices
from anymaker.rewriting import right_program
from tests.samples import Maker, document, few_standings, name, number, program, show, small_cases, then

ONE = number(1)


class BaseTest(unittest.TestCase):
    def test_each_scope(self):
        thing = program(("plus", name("x"), ONE), ("x",), (("p", ONE),))
        both = ("left", "right")
        for scope, told in (("ever", ("left", "right")), ("program", ("left", "right")), ("run", (None,)), ("anew", (None,)),
                            ("part", (("left",) * 2, ("left", "right"), ("right", "left"), ("right",) * 2)),
                            ("place", (("left",), ("right",)))):
            found = bases(document(order=(scope, both), walk=("ever", ("up",))), thing)
            self.assertEqual(found, tuple((item, "up", None, None) for item in told))

    def test_order(self):
        told = document(("ever", ("left", "right")), ("run", ("up", "down")), ("program", (0, "none")), ("run", (1, 2)))
        self.assertEqual(bases(document=told, program=program(ONE)), (
            ("left", None, 0, None), ("left", None, "none", None), ("right", None, 0, None), ("right", None, "none", None)))

    def test_many(self):
        for told, thing in small_cases(31, 60, 200):
            found = []
            for choice in choices(told, thing):
                base = tuple(None if pair[0] == "run" else item for pair, item in zip(told[1:5], choice))
                if base not in found:
                    found.append(base)
            self.assertEqual(bases(told, thing), tuple(found))


class SwallowedTest(unittest.TestCase):
    def test_where_none_swallows(self):
        for scope in ("ever", "program", "part", "place", "run", "anew"):
            for fills in ((0, "none"), ("none",), (0, 1)):
                told = document(fill=(scope, fills), ruin="whole")
                swallows = "none" in fills and scope in ("program", "run", "anew")
                expected = document(fill=(scope, ("none",)), ruin="whole") if swallows else told
                self.assertEqual(swallowed(document=told), expected)

    def test_just_the_same_is_right(self):
        maker = Maker(32)
        found = set()
        checked = 0
        while checked < 60:
            told = maker.document(scopes=("ever", "program", "run", "anew"))
            told = told[:3] + ((maker.some(("program", "run", "anew")), (maker.some((0, 1)), "none")),) + told[4:]
            old, new = maker.program(depth=2), maker.program(depth=2)
            if maker.random.random() < 0.7:
                new = old[:3] + (maker.some((then(name("x"), old[3]), ("plus", old[3], name("y")),
                                             then(show(ONE), old[3]))),)
                old, new = maker.some(((old, new), (new, old)))
            if not all(few_standings(told, one, 60) for one in (old, new)):
                continue
            checked += 1
            answer = right_program(told, old, new)[0]
            self.assertEqual(answer, right_program(swallowed(told), old, new)[0], (told, old, new))
            found.add(answer)
        self.assertEqual(found, {"right", "wrong"})


if __name__ == "__main__":
    unittest.main()
