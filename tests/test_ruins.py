"""Point [80]: whether a program can be ruined, and by how few steps."""

import unittest

from anymaker.choices import choices
from anymaker.makers import is_maker
from anymaker.ruins import ruin
from anymaker.runs import run
from anymaker.sheets import sheet
from anymaker.ways import barred, is_bar
from tests import model
from tests.samples import ASK, document, name, number, program, put, show, small_cases, then
from tests.test_ways import model_used, step_of

ONE = number(1)
ZERO = number(0)


def fewest_steps(document, program):
    """By levels of all standings that come."""
    best = None
    for choice in choices(document, program):
        level, seen, steps = [model.first(program)], {model.first(program)}, 0
        while level:
            moves = [model.moves(document, program, choice, one) for one in level]
            if any(model.ruinous(move) for move in moves):
                best = steps if best is None else min(best, steps)
                break
            behind = [one for move in moves for one in model.silent(move) + [two for _, two in model.eventful(move)]]
            level = []
            for one in behind:
                if one not in seen:
                    seen.add(one)
                    level.append(one)
            steps += 1
    return best


def steps_of(document, program, maker, inputs):
    """How many steps a run takes that is ruined, without the last one."""
    standing, state, left, many = model.first(program), 0, list(inputs), 0
    while True:
        move = model.moves(document, program, maker[1], standing)
        if move[0] == "asks":
            standing = move[1][left.pop(0)]
        else:
            _, _, standing, state = step_of(document, program, maker, standing, state)
        if standing is None:
            return many
        many += 1


class RuinTest(unittest.TestCase):
    def test_ordinary(self):
        told = document()
        word, bar = ruin(told, program(("over", ONE, ONE)))
        self.assertEqual(word, "safe")
        self.assertTrue(is_bar(told, program(("over", ONE, ONE)), "ruined", (), bar))
        self.assertEqual(ruin(told, program(("over", ONE, ZERO)))[:2], ("ruined", 1))
        self.assertEqual(ruin(told, program(("over", ONE, ZERO, "left")))[:2], ("ruined", 0))
        self.assertEqual(ruin(document(fill=("run", (0, "none"))), program(name("x")))[:2], ("ruined", 0))
        self.assertEqual(ruin(document(fill=("anew", (0, "none"))), program(then(ONE, name("x"))))[:2], ("ruined", 1))
        self.assertEqual(ruin(document(fill=("anew", (0, 1))), program(("over", ONE, name("x"))))[:2], ("ruined", 2))

    def test_inputs_and_options_that_ruin_soonest(self):
        told = document(order=("anew", ("left", "right")), fill=("run", (0, 1)))
        thing = program(("if", ASK, then(show(ONE), ("over", ONE, name("x"))), ONE))
        word, steps, maker, inputs = ruin(told, thing)
        self.assertEqual((word, steps), ("ruined", 6))
        self.assertEqual(maker[1][2], 0)
        self.assertEqual(run(told, thing, maker, inputs, 50)[1], "ruined")
        self.assertEqual(steps_of(told, thing, maker, inputs), 6)

    def test_the_choice_that_ruins_soonest(self):
        told = document(fill=("run", (0, 1, 2)), width=("run", (2,)))
        late, soon = then(ONE, ONE, ONE, ("over", ONE, ZERO, "left")), ("over", ONE, ZERO, "left")
        for body, fill, many in ((("if", name("x"), late, soon), 0, 2), (("if", name("x"), soon, late), 1, 2),
                                 (("if", ("same", name("x"), ONE, "left"), soon, late), 1, 3),
                                 (("if", ("less", name("x"), number(2), "left"), late, soon), 2, 3)):
            word, steps, maker, inputs = ruin(told, program(body))
            self.assertEqual((word, steps, maker[1][2], tuple(inputs)), ("ruined", many, fill, ()))
            self.assertEqual(fewest_steps(told, program(body)), many)

    def test_makers_are_let_to_do_so(self):
        for told, body in ((document(fill=("anew", (0, 1))), ("over", ONE, name("x"))),
                           (document(("anew", ("left", "right")), fill=("anew", (0, 1))), ("over", ONE, ("plus", name("x"), ZERO))),
                           (document(("anew", ("left", "right"))), ("over", ONE, ("minus", ONE, ONE))),
                           (document(fill=("anew", (0, "none"))), then(ASK, name("x")))):
            thing = program(body)
            _, steps, maker, inputs = ruin(told, thing)
            self.assertTrue(is_maker(told, thing, maker))
            self.assertEqual(steps_of(told, thing, maker, inputs), steps)

    def test_many(self):
        found = {"safe": 0, "ruined": 0}
        for told, thing in small_cases(64, 120, 60):
            result = ruin(document=told, program=thing)
            found[result[0]] += 1
            ruined = any("ruined" in ends for ends, _ in sheet(told, thing))
            self.assertEqual(result[0] == "ruined", ruined)
            self.assertEqual(ruined, barred(told, thing, "ruined", ()) is None)
            if result[0] == "safe":
                self.assertTrue(is_bar(told, thing, "ruined", (), result[1]))
                continue
            _, steps, maker, inputs = result
            self.assertEqual(steps, fewest_steps(told, thing))
            self.assertTrue(is_maker(told, thing, maker))
            self.assertEqual(steps_of(told, thing, maker, inputs), steps)
            self.assertIsNotNone(model_used(told, thing, maker, inputs, "ruined"))
            self.assertEqual(run(told, thing, maker, inputs, 200)[1], "ruined")
        self.assertGreater(min(found.values()), 20)

    def test_loops_that_never_end_are_safe(self):
        for body in (("while", ONE, ONE), ("while", ONE, show(put("x", ("plus", name("x"), ASK))))):
            self.assertEqual(ruin(document(width=("run", (1, 2))), program(body))[0], "safe")


if __name__ == "__main__":
    unittest.main()
