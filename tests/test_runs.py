"""Points [34] and [36]: showings, run, requests; and the fact of [11] on unlike answers."""

import unittest

from anymaker.choices import choices
from anymaker.makers import maker_of
from anymaker.programs import places
from anymaker.runs import requests, run
from anymaker.stepping import moves, standings
from tests import model
from tests.samples import ASK, Maker, document, name, number, program, put, show, small_cases, then

ONE = number(1)
STILL = document()
FIRST = ("maker", ("left", "up", 0, 1), ((),))
SILENT = ("while", ONE, number(0))


def model_run(document, program, maker, inputs, most):
    """By the words of [34], with requests."""
    standing, state, left = model.first(program), 0, list(inputs)
    kinds = [kind for kind, pair in zip(model.KINDS, document[1:5]) if pair[0] == "anew"]
    events, made, seen = (), (), set()
    while (standing, state) not in seen:
        seen.add((standing, state))
        move = model.moves(document, program, maker[1], standing)
        if move[0] in ("ends", "ruined"):
            return (events, move[0]), made
        if move[0] == "chooses":
            option, state = maker[2][state][kinds.index(move[1])]
            made += ((move[1], move[2], option),)
            let = document[1 + model.KINDS.index(move[1])][1]
            standing = move[3][let.index(option)]
            if standing is None:
                return (events, "ruined"), made
        elif move[0] == "asks":
            if not left:
                return (events, "waits"), made
            if len(events) == most:
                return (events, "more"), made
            given = left.pop(0)
            events += (("asked", given),)
            standing = move[1][given]
            seen = set()
        elif move[1] is None:
            standing = move[2]
        else:
            if len(events) == most:
                return (events, "more"), made
            events += (move[1],)
            standing = move[2]
            seen = set()
    return (events, "never"), made


class RunTest(unittest.TestCase):
    def shows(self, body, inputs=(), most=9, told=STILL, maker=FIRST):
        return run(told, program(body), maker, inputs, most)

    def test_ends(self):
        self.assertEqual(self.shows(ONE), ((), "ends"))
        self.assertEqual(self.shows(show(ONE)), ((("shown", 1),), "ends"))
        self.assertEqual(self.shows(show(ONE), most=1), ((("shown", 1),), "ends"))

    def test_more(self):
        self.assertEqual(self.shows(show(ONE), most=0), ((), "more"))
        self.assertEqual(self.shows(ASK, [3], 0), ((), "more"))
        self.assertEqual(self.shows(("while", ONE, show(ONE)), most=200), ((("shown", 1),) * 200, "more"))

    def test_waits(self):
        self.assertEqual(self.shows(ASK), ((), "waits"))
        self.assertEqual(self.shows(ASK, (), 0), ((), "waits"))
        self.assertEqual(self.shows(then(show(ASK), ASK), [7]), ((("asked", 7), ("shown", 1)), "waits"))
        self.assertEqual(self.shows(then(show(ASK), ASK), [7], 2), ((("asked", 7), ("shown", 1)), "waits"))

    def test_inputs_are_told_as_given(self):
        self.assertEqual(self.shows(show(ASK), (6,)), ((("asked", 6), ("shown", 0)), "ends"))
        self.assertEqual(self.shows(show(ASK), [6, 1, 1]), ((("asked", 6), ("shown", 0)), "ends"))
        self.assertEqual(self.shows(then(*[ASK] * 29, ASK), [1] * 30, 30), ((("asked", 1),) * 30, "ends"))

    def test_ruined(self):
        over = ("over", ONE, number(2))
        self.assertEqual(self.shows(then(show(ONE), over)), ((("shown", 1),), "ruined"))
        self.assertEqual(self.shows(then(show(ONE), over), most=1), ((("shown", 1),), "ruined"))
        none = document(fill=("run", ("none",)))
        maker = ("maker", ("left", "up", "none", 1), ((),))
        self.assertEqual(self.shows(show(name("x")), told=none, maker=maker), ((), "ruined"))
        self.assertEqual(requests(none, program(name("x")), maker, (), 0), ())

    def test_ruin_by_an_answer_is_a_request_too(self):
        told = document(fill=("anew", (0, "none")))
        maker = maker_of(told, program(name("x")), ("left", "up", None, 1), [0, "none"])
        thing = program(then(show(name("x")), name("x"), ONE))
        self.assertEqual(run(told, thing, maker, [], 5), ((("shown", 0),), "ruined"))
        self.assertEqual(requests(told, thing, maker, [], 5), (
            ("fill", ("body", (1, 1)), 0), ("fill", ("body", (2, 1)), "none")))

    def test_never(self):
        self.assertEqual(self.shows(SILENT), ((), "never"))
        self.assertEqual(self.shows(then(show(ONE), SILENT), most=1), ((("shown", 1),), "never"))
        self.assertEqual(self.shows(then(show(ONE), SILENT), most=0), ((), "more"))

    def test_never_goes_by_the_state_of_the_maker(self):
        told = document(fill=("anew", (0, 1)))
        thing = program(then(("while", ("same", name("x"), number(0), "left"), ONE), show(ONE)))
        choice = ("left", "up", None, 1)
        leaves = ("maker", choice, tuple(((0, at + 1),) for at in range(5)) + (((1, 5),),))
        self.assertEqual(run(told, thing, leaves, (), 3), ((("shown", 1),), "ends"))
        self.assertEqual(len(requests(told, thing, leaves, (), 3)), 6)
        stays = ("maker", choice, (((0, 1),), ((0, 0),)))
        self.assertEqual(run(told, thing, stays, (), 3), ((), "never"))
        place = ("body", (1, 1, 1))
        self.assertEqual(places(thing, "fill"), (place,))
        self.assertEqual(requests(told, thing, stays, (), 3), (("fill", place, 0), ("fill", place, 0)))

    def test_events_between_begin_the_round_anew(self):
        told = document(order=("anew", ("left", "right")))
        thing = program(("while", ONE, ("plus", show(ONE), show(number(0)))))
        maker = ("maker", (None, "up", 0, 1), ((("right", 0),),))
        shown, made = run(told, thing, maker, (), 4), requests(told, thing, maker, (), 4)
        self.assertEqual(shown, ((("shown", 0), ("shown", 1)) * 2, "more"))
        self.assertEqual(made, (("order", ("body", (2,)), "right"),) * 3)
        self.assertEqual(len(requests(told, thing, maker, (), 3)), 2)

    def test_no_requests_of_kinds_that_are_not_anew(self):
        self.assertEqual(requests(STILL, program(("plus", name("x"), ONE)), FIRST, (), 5), ())

    def test_requests_tell_the_place_where_they_are_made(self):
        told = document(("anew", ("left", "right")), ("anew", ("up", "down")), ("anew", (1,)))
        thing = program(then(("call", "p"), ("each", "x", 0, 1, name("x"))), ("x",), (("p", ("plus", name("x"), ONE)),))
        maker = maker_of(told, thing, (None, None, None, 1), ["right", 1, "down"])
        self.assertEqual(requests(told, thing, maker, (), 5), (
            ("order", ("p", ()), "right"), ("fill", ("p", (1,)), 1), ("walk", ("body", (2,)), "down")))

    def test_lists_and_tuples_of_inputs_are_alike(self):
        self.assertEqual(self.shows(show(ASK), [5]), self.shows(show(ASK), (5,)))

    def test_by_name(self):
        shown = run(document=STILL, program=program(ONE), maker=FIRST, inputs=(), most=0)
        self.assertEqual(shown, ((), "ends"))
        self.assertEqual(requests(document=STILL, program=program(ONE), maker=FIRST, inputs=[], most=200), ())

    def test_a_long_chain_of_nodes(self):
        body = ONE
        for _ in range(59):
            body = show(body)
        self.assertEqual(self.shows(body, most=200), ((("shown", 1),) * 59, "ends"))


class ManyRunsTest(unittest.TestCase):
    def cases(self):
        maker = Maker(12)
        for told, thing in small_cases(11, 150, 120):
            let = [option for pair in told[1:4] if pair[0] == "anew" for option in pair[1]]
            for choice in choices(told, thing)[:3]:
                options = [maker.some(let) for _ in range(4)] if let else []
                yield told, thing, maker_of(told, thing, choice, options), [maker.random.randint(0, 7) for _ in "ab"]

    def test_many(self):
        ends = set()
        for told, thing, made, inputs in self.cases():
            for most in (0, 1, 5):
                shown, asked = model_run(told, thing, made, inputs, most)
                self.assertEqual(run(told, thing, made, inputs, most), shown)
                self.assertEqual(requests(told, thing, made, inputs, most), asked)
                ends.add(shown[1])
        self.assertEqual(len(ends), 5)

    def test_further_events_only_add(self):
        for told, thing, made, inputs in self.cases():
            shown = run(told, thing, made, inputs, 200)
            for most in range(4):
                events, end = run(told, thing, made, inputs, most)
                self.assertEqual(events, shown[0][:most])
                if len(shown[0]) > most:
                    self.assertEqual(end, "more")
                else:
                    self.assertEqual(end, shown[1])

    def test_runs_are_equal_up_to_the_first_unlike_answer(self):
        told = document(order=("anew", ("left", "right")))
        thing = program(then(("plus", show(ONE), show(number(0))), ("plus", show(ONE), show(number(0)))))
        one = maker_of(told, thing, (None, "up", 0, 1), ["left", "left"])
        other = maker_of(told, thing, (None, "up", 0, 1), ["left", "right"])
        self.assertEqual(run(told, thing, one, (), 2), run(told, thing, other, (), 2))
        self.assertNotEqual(run(told, thing, one, (), 3), run(told, thing, other, (), 3))


class ExampleTest(unittest.TestCase):
    """Point [36]."""

    told = document(order=("anew", ("left", "right")), width=("run", (2,)))
    body = ("plus", put("x", ONE), name("x"))
    choice = (None, "up", 0, 2)

    def run_by(self, option, body):
        thing = program(body)
        return run(self.told, thing, maker_of(self.told, thing, self.choice, [option]), [], 9)

    def test_showings(self):
        self.assertEqual(self.run_by("left", show(self.body)), ((("shown", 2),), "ends"))
        self.assertEqual(self.run_by("right", show(self.body)), ((("shown", 1),), "ends"))
        self.assertEqual(self.run_by("left", self.body), ((), "ends"))

    def test_the_run_goes_by_moves(self):
        thing = program(self.body)
        for at, worth in ((0, 2), (1, 1)):
            standing = standings(self.told, thing, self.choice)[0]
            move = moves(self.told, thing, self.choice, standing)
            standing = move[3][at]
            move = moves(self.told, thing, self.choice, standing)
            while move[0] == "goes":
                move = moves(self.told, thing, self.choice, move[2])
            self.assertEqual(move, ("ends", worth))


if __name__ == "__main__":
    unittest.main()
