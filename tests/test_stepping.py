"""Points [30] to [33] and [36]: rests, steps, standings."""

import unittest

from anymaker.choices import choices
from anymaker.errors import BadPart, BadProgram, BadStanding, TooMany
from anymaker.placing import placed
from anymaker.programs import places
from anymaker.stepping import moves, standings
from tests import model
from tests.nearly import STRANGE, nearly
from tests.samples import ASK, document, name, number, program, put, show, small_cases, then

ONE = number(1)
CHOICE = ("left", "up", 0, 1)
B = ("body", ())


def goes(rest, memory, event=None):
    return ("goes", event, (rest, memory))


class PlacedTest(unittest.TestCase):
    def test_places_stand_in_rests(self):
        thing = program(show(("plus", name("x"), ("each", "x", 0, 1, ("name", "x", 2)))), ("x",),
                        (("p", ("less", ONE, ONE, "left")),))
        self.assertEqual(placed(thing, "body"), show((
            "plus", ("name", "x", ("body", (1, 1))),
            ("each", "x", 0, 1, ("name", "x", 2), ("body", (1, 2))), ("body", (1,)))))
        self.assertEqual(placed(program=thing, part="p"), ("less", ONE, ONE, "left"))

    def test_all_parts_of_many(self):
        for _, thing in small_cases(8, 60, 200):
            for part in [part for part, _ in thing[2]] + ["body"]:
                self.assertEqual(placed(thing, part), model.placed(thing, part))

    def test_wrong(self):
        for part in STRANGE + ("p",):
            with self.assertRaises(BadPart):
                placed(program(ONE), part)
        with self.assertRaises(BadProgram):
            placed(ONE, "p")


class MovesTest(unittest.TestCase):
    def step(self, rest, memory=(None,), told=None, choice=CHOICE, thing=None):
        thing = thing or program(("plus", name("x"), ("each", "x", 0, 1, ONE)), ("x",), (("p", name("x")),))
        return moves(told or document(), thing, choice, (rest, memory))

    def test_ends(self):
        self.assertEqual(self.step(number(3)), ("ends", 1))
        self.assertEqual(self.step(number(6), (1,)), ("ends", 0))
        self.assertEqual(self.step(number(6), told=document(width=("run", (2,))), choice=("left", "up", 0, 2)), ("ends", 2))

    def test_names(self):
        place = ("body", (1,))
        self.assertEqual(self.step(("name", "x", place), (1,)), goes(ONE, (1,)))
        self.assertEqual(self.step(("name", "x", place)), goes(number(0), (None,)))
        self.assertEqual(self.step(("name", "x", 3)), goes(ONE, (None,)))
        self.assertEqual(self.step(("name", "x", 3), (0,)), goes(number(0), (0,)))
        three = document(fill=("run", (3,)))
        self.assertEqual(self.step(("name", "x", place), told=three, choice=("left", "up", 3, 1)), goes(ONE, (None,)))
        none = document(fill=("run", ("none",)))
        self.assertEqual(self.step(("name", "x", place), told=none, choice=("left", "up", "none", 1)), ("ruined",))
        self.assertEqual(self.step(("name", "x", place), (1,), none, ("left", "up", "none", 1)), goes(ONE, (1,)))
        self.assertEqual(self.step(("name", "x", 2), told=none, choice=("left", "up", "none", 1)), goes(number(0), (None,)))

    def test_request_of_a_fill(self):
        anew = document(fill=("anew", (0, 3, "none")))
        place = ("body", (1,))
        self.assertEqual(self.step(show(("name", "x", place)), told=anew, choice=("left", "up", None, 1)), (
            "chooses", "fill", place, ((show(number(0)), (None,)), (show(ONE), (None,)), None)))
        self.assertEqual(self.step(("name", "x", place), (0,), anew, ("left", "up", None, 1)), goes(number(0), (0,)))
        self.assertEqual(self.step(("name", "x", 1), told=anew, choice=("left", "up", None, 1)), goes(ONE, (None,)))

    def test_asks(self):
        self.assertEqual(self.step(ASK), ("asks", tuple((number(n % 2), (None,)) for n in range(8))))
        wide = document(width=("run", (3,)))
        self.assertEqual(self.step(put("x", ASK), told=wide, choice=("left", "up", 0, 3)),
                         ("asks", tuple((put("x", number(n)), (None,)) for n in range(8))))

    def test_set_show_if_then(self):
        self.assertEqual(self.step(put("x", number(3))), goes(ONE, (1,)))
        self.assertEqual(self.step(show(number(6))), goes(number(0), (None,), ("shown", 0)))
        self.assertEqual(self.step(("if", number(2), ONE, ASK)), goes(ASK, (None,)))
        self.assertEqual(self.step(("if", number(3), ASK, ONE)), goes(ASK, (None,)))
        self.assertEqual(self.step(("then", number(5), number(7))), goes(number(7), (None,)))
        self.assertEqual(self.step(then(put("x", ONE), ASK)), goes(then(ONE, ASK), (1,)))
        self.assertEqual(self.step(put("x", show(ONE))), goes(put("x", ONE), (None,), ("shown", 1)))

    def test_call_and_while(self):
        self.assertEqual(self.step(("call", "p")), goes(("name", "x", ("p", ())), (None,)))
        loop = ("while", ASK, ONE)
        self.assertEqual(self.step(loop), goes(("if", ASK, ("then", ONE, loop), number(0)), (None,)))
        self.assertEqual(self.step(show(loop)), goes(show(("if", ASK, ("then", ONE, loop), number(0))), (None,)))

    def test_each(self):
        place = ("body", (2,))
        self.assertEqual(self.step(("each", "x", 0, 1, ASK, place)), goes(("each", "x", 0, 1, ASK, "up"), (None,)))
        anew = document(walk=("anew", ("up", "down")))
        self.assertEqual(self.step(("each", "x", 0, 1, ASK, place), told=anew, choice=("left", None, 0, 1)), (
            "chooses", "walk", place,
            ((("each", "x", 0, 1, ASK, "up"), (None,)), (("each", "x", 0, 1, ASK, "down"), (None,)))))
        self.assertEqual(self.step(("each", "x", 0, 1, ASK, "up")), goes(
            then(then(put("x", number(0)), ASK), ("each", "x", 1, 1, ASK, "up")), (None,)))
        self.assertEqual(self.step(("each", "x", 0, 0, ASK, "down")), goes(
            then(then(put("x", number(0)), ASK), ("each", "x", 0, -1, ASK, "down")), (None,)))
        self.assertEqual(self.step(("each", "x", 0, -1, ASK, "down")), goes(number(0), (None,)))
        self.assertEqual(self.step(("each", "x", 8, 7, ASK, "up")), goes(number(0), (None,)))

    def test_each_goes_up_to_7(self):
        wide = document(width=("run", (3,)))
        self.assertEqual(self.step(("each", "x", 7, 7, ASK, "up"), told=wide, choice=("left", "up", 0, 3)), goes(
            then(then(put("x", number(7)), ASK), ("each", "x", 8, 7, ASK, "up")), (None,)))

    def test_operations(self):
        told = document(width=("run", (2,)))
        for operation, one, other, result in (
                ("plus", 3, 2, 1), ("minus", 1, 3, 2), ("times", 3, 3, 1), ("same", 2, 6, 1), ("same", 2, 3, 0),
                ("less", 1, 2, 1), ("less", 5, 2, 1), ("less", 2, 2, 0), ("over", 3, 2, 1), ("over", 7, 5, 3)):
            for way in ("left", "right"):
                self.assertEqual(self.step((operation, number(one), number(other), way), told=told,
                                           choice=("left", "up", 0, 2)), goes(number(result), (None,)), operation)
        for zero in (0, 4):
            self.assertEqual(self.step(("over", ONE, number(zero), "left"), told=told, choice=("left", "up", 0, 2)),
                             ("ruined",))

    def test_order_of_operations(self):
        place = ("body", ())
        both = ("plus", show(ONE), ASK)
        self.assertEqual(self.step(both + (place,)), goes(both + ("left",), (None,)))
        self.assertEqual(self.step(both + ("left",)), goes(("plus", ONE, ASK, "left"), (None,), ("shown", 1)))
        self.assertEqual(self.step(both + ("right",))[0], "asks")
        self.assertEqual(self.step(("plus", ONE, ASK, "left"))[0], "asks")
        self.assertEqual(self.step(("plus", show(ONE), ONE, "right"))[1], ("shown", 1))
        anew = document(order=("anew", ("right", "left")[::-1]))
        self.assertEqual(self.step(both + (place,), told=anew, choice=(None, "up", 0, 1)), (
            "chooses", "order", place, ((both + ("left",), (None,)), (both + ("right",), (None,)))))
        self.assertEqual(self.step(both + ("right",), told=anew, choice=(None, "up", 0, 1))[0], "asks")

    def test_one_option_anew_is_a_request_too(self):
        told = document(order=("anew", ("right",)))
        step = self.step(("plus", ONE, ONE, ("body", ())), told=told, choice=(None, "up", 0, 1))
        self.assertEqual(step, ("chooses", "order", ("body", ()), ((("plus", ONE, ONE, "right"), (None,)),)))

    def test_scopes_part_and_place(self):
        thing = program(("plus", ("minus", ONE, ONE), ("call", "p")), ("x",), (("p", ("minus", ONE, ONE)),))
        def way(scope, item, place):
            told = document(order=(scope, ("left", "right")))
            return moves(told, thing, (item, "up", 0, 1), (("plus", ONE, ONE, place), (None,)))[2][0][3]
        self.assertEqual(way("part", ("left", "right"), ("p", ())), "left")
        self.assertEqual(way("part", ("left", "right"), ("body", (1,))), "right")
        self.assertEqual(way("place", ("left", "right", "left"), ("body", ())), "right")
        self.assertEqual(way("place", ("left", "right", "left"), ("p", ())), "left")
        self.assertEqual(way("place", ("left", "left", "right"), ("body", (1,))), "right")

    def test_many_moves(self):
        for told, thing in small_cases(9, 60, 100):
            for choice in choices(told, thing)[:4]:
                for standing in standings(told, thing, choice):
                    self.assertEqual(moves(told, thing, choice, standing), model.moves(told, thing, choice, standing))


class StandingFormTest(unittest.TestCase):
    thing = program(then(("plus", name("x"), ("each", "y", 0, 1, ONE)), ("minus", ONE, ONE, "left")), ("x", "y"),
                    (("p", ("times", ONE, ONE)),))

    def accepts(self, standing, told=None, choice=CHOICE):
        try:
            moves(told or document(), self.thing, choice, standing)
        except BadStanding:
            return False
        return True

    def by_words(self, thing):
        """By points [30]: written by cases."""
        if type(thing) is not tuple or len(thing) != 2:
            return False
        memory = thing[1]
        if type(memory) is not tuple or len(memory) != 2:
            return False
        if not all(one is None or type(one) is int and 0 <= one <= 1 for one in memory):
            return False
        return self.rest_by_words(thing[0])

    def rest_by_words(self, rest):
        from anymaker.expressions import is_expression
        from tests.nearly import same_with_kinds
        def spot(thing, kind):
            return any(same_with_kinds(thing, place) for place in places(self.thing, kind))
        if type(rest) is not tuple or not rest or type(rest[0]) is not str:
            return False
        head = rest[0]
        if head in model.OPERATIONS:
            return (len(rest) == 4 and self.rest_by_words(rest[1]) and self.rest_by_words(rest[2])
                    and (rest[3] in ("left", "right") or spot(rest[3], "order")))
        if head == "each":
            return (len(rest) == 6 and rest[1] in ("x", "y") and type(rest[2]) is int and type(rest[3]) is int
                    and 0 <= rest[2] <= rest[3] + 1 <= 8 and self.rest_by_words(rest[4])
                    and (rest[5] in ("up", "down") or spot(rest[5], "walk")))
        if head == "name":
            return (len(rest) == 3 and rest[1] in ("x", "y")
                    and (type(rest[2]) is int and 0 <= rest[2] <= 3 or spot(rest[2], "fill")))
        inner = model.INNER.get(head, ())
        if any(at >= len(rest) or not self.rest_by_words(rest[at]) for at in inner):
            return False
        plain = tuple(ONE if at in inner else part for at, part in enumerate(rest))
        if not is_expression(plain):
            return False
        if head == "call":
            return rest[1] == "p"
        return head != "set" or rest[1] in ("x", "y")

    def test_nearly_standings(self):
        loose = then(put("y", ("name", "x", ("body", (1, 1)))), ("call", "p"))
        for standing in standings(document(), self.thing, CHOICE)[:6] + ((loose, (0, None)),):
            self.assertTrue(self.accepts(standing))
            for other in nearly(standing):
                self.assertIs(self.accepts(other), self.by_words(other), other)

    def test_no_standings(self):
        for thing in STRANGE:
            self.assertFalse(self.accepts(thing))
        for rest in (("plus", ONE, ONE), name("x"), ("each", "x", 0, 1, ONE), ("plus", ONE, ONE, ("p", (1,))),
                     ("plus", ONE, ONE, ("body", (2,))), ("name", "x", ("body", ())), ("name", "z", 0), put("z", ONE),
                     ("call", "q"), ("call", "body"), ("hole",), ("name", "x", 4), ("name", "x", "none"),
                     ("plus", ONE, ONE, ("body", [1])), ("plus", ONE, ONE, ("body", (True,))), ("each", "x", 2, 0, ONE, "up"),
                     ("each", "x", -1, 0, ONE, "up"), ("each", "x", 0, 8, ONE, "up"), ("each", "x", 9, 8, ONE, "up"),
                     ("name", ["x"], 0), ("name", [], ("body", (1, 1))), ("each", {}, 0, 1, ONE, "up"), ([], ONE), put([], ONE),
                     ("each", "x", 0, -2, ONE, "up"), ("each", "z", 0, 1, ONE, "up"), ("minus", ONE, ONE, ("body", (2,)))):
            self.assertFalse(self.accepts((rest, (None, None))), rest)
        for memory in ((None,), (None, None, None), [None, None], (2, None), (True, None), (-1, 0), None, ("0", 0)):
            self.assertFalse(self.accepts((ONE, memory)), memory)

    def test_standings_need_not_come(self):
        for rest in (("times", ONE, ONE, ("body", (1,))), ("each", "x", 8, 7, ONE, "down"), ("each", "x", 0, -1, ONE, "up"),
                     ("name", "y", ("body", (1, 1))), ("each", "y", 3, 2, ASK, ("body", (1, 2))), ("call", "p"), ASK):
            self.assertTrue(self.accepts((rest, (1, None))), rest)

    def test_worths_go_by_the_width_of_the_choice(self):
        told = document(width=("run", (1, 2, 3)))
        for width, most in ((1, 1), (2, 3), (3, 7)):
            for worth in range(9):
                self.assertIs(self.accepts((ONE, (worth, None)), told, ("left", "up", 0, width)), worth <= most)


class StandingsTest(unittest.TestCase):
    def test_many(self):
        for told, thing in small_cases(10, 60, 150):
            for choice in choices(told, thing)[:4]:
                self.assertEqual(standings(told, thing, choice), tuple(model.standings(told, thing, choice)))

    def test_a_loop_has_few(self):
        loop = program(("while", ONE, show(ONE)))
        self.assertEqual(len(standings(document=document(), program=loop, choice=CHOICE)), 4)

    def test_more_than_2000(self):
        told = document(width=("run", (3,)))
        choice = ("left", "up", 0, 3)

        def long(many):
            walks = [("each", "x", 0, 7, ONE, "up"), ("each", "y", 0, 3, ONE, "up")]
            asks = [put("x", ASK), put("y", ASK), put("z", ("less", ASK, number(3)))]
            return program(then(*walks, *[ONE] * many, *asks, ("same", name("x"), name("y")), ONE, ONE), ("x", "y", "z"))
        many = 2000 - len(standings(told, long(0), choice))
        self.assertLess(many, 9)
        self.assertEqual(len(standings(told, long(many), choice)), 2000)
        with self.assertRaises(TooMany) as caught:
            standings(told, long(many + 1), choice)
        self.assertEqual(caught.exception.most, 2000)


class ExampleTest(unittest.TestCase):
    """Point [36]."""

    told = document(order=("anew", ("left", "right")), width=("run", (2,)))
    body = ("plus", put("x", ONE), name("x"))
    choice = (None, "up", 0, 2)

    def test_places(self):
        self.assertEqual(places(program(self.body), "order"), (("body", ()),))
        self.assertEqual(places(program(self.body), "fill"), (("body", (2,)),))

    def test_first_move(self):
        thing = program(self.body)
        first = standings(self.told, thing, self.choice)[0]
        self.assertEqual(first, (("plus", put("x", ONE), ("name", "x", ("body", (2,))), ("body", ())), (None,)))
        self.assertEqual(moves(self.told, thing, self.choice, first)[:3], ("chooses", "order", ("body", ())))

    def test_worths(self):
        thing = program(self.body)
        ends = [moves(self.told, thing, self.choice, one) for one in standings(self.told, thing, self.choice)[-2:]]
        self.assertEqual(ends, [("ends", 2), ("ends", 1)])


if __name__ == "__main__":
    unittest.main()
