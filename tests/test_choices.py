"""Points [10] and [11]: choices and makers."""

import itertools
import unittest

from anymaker.choices import choices, is_choice
from anymaker.errors import BadOptions, TooMany
from anymaker.makers import is_maker, maker_of
from tests import model
from tests.nearly import STRANGE, nearly, same_with_kinds
from tests.samples import Maker, document, name, number, program, small_cases, then

ONE = number(1)
TWO_PARTS = program(("plus", name("x"), name("x")), ("x",), (("p", ("minus", ONE, ONE)), ("q", ONE)))
KINDS = ("order", "walk", "fill", "width")


def model_items(document, program, kind):
    scope, options = document[1 + KINDS.index(kind)]
    if scope == "anew":
        return [None]
    if scope == "part":
        return list(itertools.product(options, repeat=len(program[2]) + 1))
    if scope == "place":
        return list(itertools.product(options, repeat=len(model.places(program, kind))))
    return list(options)


class ChoiceTest(unittest.TestCase):
    def test_each_scope(self):
        for scope in ("ever", "program", "run"):
            self.assertEqual(choices(document(order=(scope, ("left", "right"))), TWO_PARTS),
                             (("left", "up", 0, 1), ("right", "up", 0, 1)))
        self.assertEqual(choices(document(order=("anew", ("left", "right"))), TWO_PARTS), ((None, "up", 0, 1),))
        pairs = [choice[0] for choice in choices(document(order=("place", ("left", "right"))), TWO_PARTS)]
        self.assertEqual(pairs, [("left", "left"), ("left", "right"), ("right", "left"), ("right", "right")])
        triples = [choice[0] for choice in choices(document(order=("part", ("left", "right"))), TWO_PARTS)]
        self.assertEqual(triples, list(itertools.product(("left", "right"), repeat=3)))

    def test_no_places_and_no_parts(self):
        thing = program(ONE)
        self.assertEqual(choices(document(order=("place", ("left", "right")), fill=("place", (0, "none"))), thing),
                         (((), "up", (), 1),))
        self.assertEqual(choices(document(walk=("part", ("up", "down"))), thing),
                         (("left", ("up",), 0, 1), ("left", ("down",), 0, 1)))

    def test_the_last_changes_fastest(self):
        told = document(("run", ("left", "right")), ("ever", ("up", "down")), ("program", (1, "none")), ("run", (1, 3)))
        self.assertEqual(choices(document=told, program=program(ONE)), tuple(itertools.product(
            ("left", "right"), ("up", "down"), (1, "none"), (1, 3))))

    def test_choices_of_many(self):
        for told, thing in small_cases(5, 60, 200):
            items = [model_items(told, thing, kind) for kind in KINDS]
            self.assertEqual(choices(told, thing), tuple(itertools.product(*items)))

    def test_more_than_400(self):
        def sums(many):
            return program(then(*[("plus", ONE, ONE)] * many))
        told = document(order=("place", ("left", "right")), fill=("run", (0, 1, 2)))
        self.assertEqual(len(choices(told, sums(7))), 384)
        with self.assertRaises(TooMany) as caught:
            choices(told, sums(8))
        self.assertEqual(caught.exception.most, 400)
        just = document(order=("place", ("left", "right")), fill=("run", (0, 1, 2, 3, "none")))
        full = document(("place", ("left", "right")), ("run", ("up", "down")), ("run", (0, 1, 2, 3, "none")))
        self.assertEqual(len(choices(just, sums(6))), 320)
        with self.assertRaises(TooMany):
            choices(just, sums(7))
        parts = document(fill=("part", (0, 1, 2, 3)), order=("part", ("left", "right")))
        self.assertEqual(len(choices(full, sums(5))), 320)
        with self.assertRaises(TooMany):
            choices(parts, program(ONE, ("x",), (("p", ONE), ("q", ONE))))
        wide = document(("place", ("left", "right")), ("place", ("up", "down")), ("place", (0, 1, 2, 3, "none")))
        with self.assertRaises(TooMany):
            choices(wide, program(then(*[("plus", name("x"), name("x"))] * 13)))

    def test_just_400(self):
        body = then(name("x"), name("x"), ("plus", ONE, ONE), ("plus", ONE, ONE))
        told = document(("place", ("left", "right")), ("run", ("up", "down")), ("place", (0, 1, 2, 3, "none")),
                        ("run", (1, 2)))
        self.assertEqual(len(choices(told, program(body))), 400)

    def test_what_is_anew_does_not_count(self):
        thing = program(then(*[("plus", name("x"), ONE)] * 8))
        told = document(("place", ("left", "right")), ("anew", ("up", "down")), ("anew", (0, 1, 2, 3, "none")))
        self.assertEqual(len(choices(told, thing)), 256)

    def test_choices_are_choices_and_nearly_ones_are_not(self):
        told = document(("part", ("left", "right")), ("anew", ("up", "down")), ("place", (0, 1, "none")), ("ever", (1, 2)))
        every = choices(told, TWO_PARTS)
        for choice in every[:12]:
            self.assertIs(is_choice(told, TWO_PARTS, choice), True)
            for other in nearly(choice):
                expected = any(same_with_kinds(other, one) for one in every)
                self.assertIs(is_choice(told, TWO_PARTS, other), expected, other)
        for thing in STRANGE:
            self.assertIs(is_choice(document=told, program=TWO_PARTS, thing=thing), False)

    def test_bools_are_no_options(self):
        told = document(fill=("run", (0, 1)))
        self.assertTrue(is_choice(told, program(ONE), ("left", "up", 0, 1)))
        self.assertFalse(is_choice(told, program(ONE), ("left", "up", False, 1)))
        self.assertFalse(is_choice(told, program(ONE), ("left", "up", 0, True)))
        self.assertFalse(is_choice(told, program(ONE), ("left", "up", 2, 1)))
        self.assertFalse(is_choice(told, program(ONE), ["left", "up", 0, 1]))


class MakerTest(unittest.TestCase):
    told = document(("anew", ("left", "right")), ("run", ("up", "down")), ("anew", (1, 3, "none")))
    choice = (None, "down", None, 1)

    def test_maker_of(self):
        made = maker_of(self.told, TWO_PARTS, self.choice, ["right", 3, "none", "left"])
        self.assertEqual(made, ("maker", self.choice, (
            (("right", 1), (1, 1)), (("left", 2), (3, 2)), (("left", 3), ("none", 3)), (("left", 4), (1, 4)),
            (("left", 4), (1, 4)))))
        self.assertTrue(is_maker(self.told, TWO_PARTS, made))
        self.assertEqual(maker_of(self.told, TWO_PARTS, self.choice, []),
                         ("maker", self.choice, ((("left", 0), (1, 0)),)))
        self.assertEqual(maker_of(self.told, TWO_PARTS, self.choice, ("right",)),
                         maker_of(document=self.told, program=TWO_PARTS, choice=self.choice, options=["right"]))

    def test_no_kind_anew(self):
        told = document()
        made = maker_of(told, TWO_PARTS, ("left", "up", 0, 1), [])
        self.assertEqual(made, ("maker", ("left", "up", 0, 1), ((),)))
        self.assertTrue(is_maker(told, TWO_PARTS, ("maker", ("left", "up", 0, 1), ((), ()))))
        with self.assertRaises(BadOptions):
            maker_of(told, TWO_PARTS, ("left", "up", 0, 1), ["left"])

    def test_first_options_are_let_ones(self):
        told = document(("anew", ("right",)), ("anew", ("down",)), ("anew", (2, "none")))
        made = maker_of(told, TWO_PARTS, (None, None, None, 1), ["none"])
        self.assertEqual(made[2], ((("right", 1), ("down", 1), ("none", 1)), (("right", 1), ("down", 1), (2, 1))))

    def test_wrong_options(self):
        for options in (None, 1, "left", {"left": 1}, ["up"], ["down"], [0], [2], [True], ["right", None], [["left"]],
                        "right", [b"left"], {}, ["left", 1, 1, 0]):
            with self.assertRaises(BadOptions):
                maker_of(self.told, TWO_PARTS, self.choice, options)

    def test_nearly_makers(self):
        made = maker_of(self.told, TWO_PARTS, self.choice, ["right", 1])
        for other in nearly(made):
            self.assertIs(is_maker(self.told, TWO_PARTS, other), self.by_words(other), other)
        for thing in STRANGE:
            self.assertIs(is_maker(document=self.told, program=TWO_PARTS, thing=thing), False)

    def by_words(self, thing):
        """A maker by the words of point [11]."""
        every = [(None, walk, None, 1) for walk in ("up", "down")]
        if type(thing) is not tuple or len(thing) != 3 or thing[0] != "maker":
            return False
        if not any(same_with_kinds(thing[1], choice) for choice in every):
            return False
        if type(thing[2]) is not tuple or not thing[2]:
            return False
        many = len(thing[2])
        rows = [((order, a), (fill, b)) for order in ("left", "right") for fill in (1, 3, "none")
                for a in range(many) for b in range(many)]
        return all(any(same_with_kinds(row, one) for one in rows) for row in thing[2])

    def test_states_and_options(self):
        for rows in ((), [(("left", 0), (1, 0))], ((("left", 1), (1, 0)),), ((("left", True), (1, 0)),) * 2,
                     ((("left", 0), (2, 0)),), ((("left", 0),),), (((1, 0), ("left", 0)),), ((("left", -1), (1, 0)),),
                     ((("left", 0), (True, 0)),), ((["left", 0], (1, 0)),)):
            self.assertFalse(is_maker(self.told, TWO_PARTS, ("maker", self.choice, rows)), rows)
        self.assertTrue(is_maker(self.told, TWO_PARTS, ("maker", self.choice, ((("right", 1), (1, 0)),) * 2)))
        self.assertFalse(is_maker(self.told, TWO_PARTS, ("maker", ("left", "up", 1, 1), ((),))))


class ManyMakersTest(unittest.TestCase):
    def test_makers_of_many(self):
        maker = Maker(6)
        for told, thing in small_cases(7, 40, 100):
            let = [option for pair in told[1:4] if pair[0] == "anew" for option in pair[1]]
            options = [maker.some(let) for _ in range(3)] if let else []
            for choice in choices(told, thing)[:3]:
                made = maker_of(told, thing, choice, options)
                self.assertTrue(is_maker(told, thing, made))
                self.assertEqual(len(made[2]), len(options) + 1)


if __name__ == "__main__":
    unittest.main()
