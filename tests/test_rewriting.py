"""Points [70], [71], [73]: whole programs that are right for others."""

import unittest

from anymaker.bases import bases
from anymaker.makers import is_maker
from anymaker.rewriting import are_wrong_runs, right_program
from anymaker.runs import run
from tests import model
from tests.nearly import STRANGE, nearly
from tests.rights import agree, base_of, by_bases, is_free, ruined_by, wrong_showings
from tests.samples import ASK, BIT, Maker, document, few_standings, name, number, program, put, show, then
from tests.test_tables import cases

ONE, ZERO = number(1), number(0)
BASE = (None, None, None, None)
BOTH = ("left", "right")
CRASH = ("over", ONE, ZERO, "left")


def is_right(told, old, new, variables=("x", "y")):
    return right_program(told, program(old, variables), program(new, variables))[0] == "right"


def comes_under(told, thing, rows, showing):
    events, end = showing
    for choice in rows:
        lot = model.lot_behind(told, thing, choice, events)
        if end in model.ends_of(told, thing, choice, lot):
            return True
    return False


def model_wrong_runs(told, old, new, base, thing):
    """By the words of [71]."""
    others = [other for other in by_bases(told, old) if agree(told, base, other)]
    if type(thing) is not tuple or len(thing) != len(others):
        return False
    for other, triple in zip(others, thing):
        if type(triple) is not tuple or len(triple) != 3 or not is_maker(told, new, triple[0]):
            return False
        maker, inputs, most = triple
        if not isinstance(inputs, (list, tuple)) or not all(type(one) is int and 0 <= one <= 7 for one in inputs):
            return False
        if type(most) is not int or not 0 <= most <= 200 or base_of(told, maker[1]) != base:
            return False
        showing = run(told, new, maker, inputs, most)
        rows = by_bases(told, old)[other]
        if comes_under(told, old, rows, showing):
            return False
        if told[5] == "ahead":
            shown = showing[0]
            ruined = [shown[:many] for many in range(len(shown) + 1)
                      if comes_under(told, old, rows, (shown[:many], "ruined"))]
        else:
            ruined = ruined_by(told, old, rows)
        if is_free(told, ruined, showing[0]):
            return False
    return True


class RightTest(unittest.TestCase):
    def test_by_hand(self):
        told = document()
        self.assertEqual(right_program(told, program(ONE), program(ZERO)), ("right", ((BASE, BASE),)))
        word, base, runs = right_program(document=told, old=program(ONE), new=program(show(ONE)))
        self.assertEqual((word, base, len(runs)), ("wrong", BASE, 1))
        self.assertTrue(are_wrong_runs(told, program(ONE), program(show(ONE)), base, runs))

    def test_programs_of_unlike_variables_and_parts(self):
        self.assertEqual(right_program(document(), program(name("a"), ("a",)), program(
            ("call", "p"), ("x", "y"), (("p", ONE),)))[0], "right")

    def test_scopes_of_one_kind(self):
        """Old shows the order; new shows 1 always."""
        for scope, right in (("ever", False), ("program", True), ("run", True), ("anew", True)):
            self.assertIs(is_right(document(order=(scope, ("left", "right"))), show(BIT), show(ONE)), right, scope)
        told = document(order=("program", ("left", "right")))
        self.assertEqual(right_program(told, program(show(BIT), ("y",)), program(show(ZERO)))[1],
                         ((("left", None, None, None), ("right", None, None, None)),
                          (("right", None, None, None), ("right", None, None, None))))

    def test_a_program_chooses_ahead_of_all_inputs_and_a_run_anew(self):
        told = [document(order=(scope, ("left", "right"))) for scope in ("program", "run")]
        old = then(ASK, show(BIT))
        new = ("if", ASK, show(ONE), show(ZERO))
        self.assertFalse(is_right(told[0], old, new))
        self.assertTrue(is_right(told[1], old, new))

    def test_right_for_itself_and_one_behind_the_other(self):
        for told, old, new in cases(41, 40):
            self.assertEqual(right_program(told, old, old)[0], "right")
        rows = [("if", ASK, show(ONE), CRASH), ("if", ASK, show(ONE), show(ZERO)), CRASH, ("then", ASK, show(ONE))]
        for told in (document(), document(ruin="whole")):
            for one in rows:
                for two in rows:
                    for three in rows:
                        if is_right(told, one, two) and is_right(told, two, three):
                            self.assertTrue(is_right(told, one, three))

    def test_right_ahead_is_right_by_whole(self):
        both = 0
        for told, old, new in cases(42, 80):
            if right_program(told[:5] + ("ahead",), old, new)[0] == "right":
                self.assertEqual(right_program(told[:5] + ("whole",), old, new)[0], "right")
                both += 1
        self.assertGreater(both, 20)

    def test_and_not_the_other_way_about(self):
        """The example of [73]."""
        old, new = then(show(ONE), ("over", ONE, ZERO)), show(number(2))
        for order in ("run", "anew", "ever"):
            self.assertFalse(is_right(document(order=(order, ("left", "right")), width=("run", (2,))), old, new))
            self.assertTrue(is_right(document(order=(order, ("left", "right")), width=("run", (2,)), ruin="whole"), old, new))

    def test_a_new_ruin_is_right_only_if_it_is_free(self):
        for ruin in ("ahead", "whole"):
            told = document(ruin=ruin)
            self.assertFalse(is_right(told, ONE, CRASH))
            self.assertTrue(is_right(told, CRASH, CRASH))
            self.assertTrue(is_right(told, CRASH, ONE))
            self.assertEqual(is_right(told, then(show(ONE), CRASH), CRASH), ruin == "whole")
            self.assertTrue(is_right(told, CRASH, then(show(ONE), CRASH)))

    def test_by_whole_only_inputs_count(self):
        told = document(ruin="whole")
        old = ("if", ASK, then(show(ONE), CRASH), ONE)
        self.assertTrue(is_right(told, old, ("if", ASK, show(ZERO), ONE)))
        self.assertFalse(is_right(told, old, ("if", ASK, ONE, show(ONE))))
        self.assertTrue(is_right(told, then(CRASH, ASK), then(ASK, ASK)))
        self.assertFalse(is_right(told, then(ASK, CRASH), show(ONE)))

    def test_scopes_wider_together(self):
        """Point [73]: ever to program keeps what is right; all of program to run together, too."""
        moved = 0
        maker = Maker(43)
        for told, old, new in cases(44, 60):
            ever = ("document",) + tuple((maker.some(("ever", "run", "anew")[:2 if at == 3 else 3]), pair[1])
                                         for at, pair in enumerate(told[1:5])) + told[5:]
            program_wide = ("document",) + tuple(("program", pair[1]) if pair[0] == "ever" else pair
                                                 for pair in ever[1:5]) + told[5:]
            run_wide = ("document",) + tuple(("run", pair[1]) if pair[0] == "program" else pair
                                             for pair in program_wide[1:5]) + told[5:]
            answers = [right_program(one, old, new)[0] == "right" for one in (ever, program_wide, run_wide)]
            self.assertEqual(answers, sorted(answers))
            moved += answers[2]
        self.assertGreater(moved, 20)

    def test_one_kind_alone_to_run_is_not_always_right(self):
        """The example of [73]."""
        old = ("each", "x", 0, 1, show(name("x")))
        new = ("if", BIT, then(show(ZERO), show(ONE)), then(show(ONE), show(ZERO)))
        wide = ("program", ("left", "right")), ("program", ("up", "down"))
        self.assertTrue(is_right(document(*wide), old, new))
        self.assertFalse(is_right(document(("run", ("left", "right")), wide[1]), old, new))
        self.assertTrue(is_right(document(("run", ("left", "right")), ("run", ("up", "down"))), old, new))

    def test_many_against_all_showings(self):
        found = {"right": 0, "wrong": 0}
        for told, old, new in cases(45, 120):
            answer = right_program(told, old, new)
            found[answer[0]] += 1
            if answer[0] == "right":
                self.assertEqual([base for base, _ in answer[1]], list(by_bases(told, new)))
                for base, other in answer[1]:
                    self.assertTrue(agree(told, base, other))
                    self.assertFalse(wrong_showings(told, old, new, base, other, 2))
            else:
                self.assertIn(answer[1], bases(told, new))
                self.assertTrue(are_wrong_runs(told, old, new, *answer[1:]))
                self.assertTrue(model_wrong_runs(told, old, new, *answer[1:]))
        self.assertGreater(min(found.values()), 30)

    def test_120_nodes(self):
        body = then(*[show(ONE)] * 40)
        self.assertEqual(right_program(document(), program(body), program(then(*[show(number(3))] * 40)))[0], "right")
        self.assertEqual(right_program(document(), program(body), program(then(*[show(number(3))] * 39)))[0], "wrong")
        deep = ONE
        for _ in range(119):
            deep = show(deep)
        self.assertEqual(right_program(document(), program(deep), program(deep))[0], "right")


class WrongRunsTest(unittest.TestCase):
    def test_each_fault(self):
        for old, new, end in ((ONE, ASK, "waits"), (ONE, ("while", ONE, ONE), "never"), (ASK, ONE, "ends"),
                              (ONE, CRASH, "ruined"), (ONE, show(ONE), "ends"), (then(show(ONE), ONE), show(ZERO), "ends")):
            word, base, ((maker, inputs, most),) = right_program(document(), program(old), program(new))
            self.assertEqual(word, "wrong")
            self.assertEqual(run(document(), program(new), maker, inputs, most)[1], end)

    def test_a_round_by_answers(self):
        told = document(fill=("anew", (0, 1, "none")))
        old, new = program(ONE), program(then(name("x"), ("while", name("x"), name("x"))))
        new_never = program(then(("name", "x", 1), ("while", ("name", "x", 1), ("same", name("x"), name("x")))))
        for thing in (new, new_never):
            word, base, runs = right_program(told, old, thing)
            self.assertEqual(word, "wrong")
            self.assertTrue(model_wrong_runs(told, old, thing, base, runs))

    def test_rounds_by_options_that_are_not_the_first(self):
        told = document(("anew", BOTH), fill=("anew", (0, 1)))
        for old, new in ((show(ONE), then(show(ONE), name("x"), ("while", name("x"), name("x")))),
                         (then(name("x"), show(ONE)), then(name("x"), show(ONE), ("while", name("x"), ONE))),
                         (ONE, then(name("x"), name("x"), ("while", name("x"), name("x")))),
                         (then(BIT, show(ONE)), then(BIT, show(ONE), name("x"), ("while", name("x"), name("x")))),
                         (ONE, ("while", ("same", BIT, ZERO, "left"), ZERO)), (ONE, then(BIT, ("while", name("x"), ONE)))):
            answer = right_program(told, program(old, ("x", "y")), program(new, ("x", "y")))
            self.assertEqual(answer[0], "wrong")
            self.assertTrue(model_wrong_runs(told, program(old, ("x", "y")), program(new, ("x", "y")), *answer[1:]))
            self.assertEqual(run(told, program(new, ("x", "y")), *answer[2][0])[1], "never")

    def test_a_round_by_a_later_choice(self):
        told = document(("run", BOTH), fill=("anew", (0, 1)))
        old = program(show(ONE), ("x", "y"))
        new = program(("if", BIT, show(ONE), then(show(ONE), name("x"), ("while", ("name", "x", 1), name("x")))), ("x", "y"))
        word, base, runs = right_program(told, old, new)
        self.assertEqual(word, "wrong")
        self.assertTrue(model_wrong_runs(told, old, new, base, runs))
        self.assertEqual(run(told, new, *runs[0]), ((("shown", 1),), "never"))

    def test_nearly_right(self):
        checked = {True: 0, False: 0}
        for told, old, new in cases(46, 60, 15, depth=2):
            answer = right_program(told, old, new)
            if answer[0] == "right":
                continue
            for thing in nearly(answer[2]):
                expected = model_wrong_runs(told, old, new, answer[1], thing)
                self.assertIs(are_wrong_runs(told, old, new, answer[1], thing), expected, (told, old, new, thing))
                checked[expected] += 1
        self.assertGreater(min(checked.values()), 100)

    def test_runs_that_are_free(self):
        """Behind 1 old is ruined once it has shown 1; behind 0 new shows what old does not."""
        old = program(("if", ASK, then(show(ONE), CRASH), ONE))
        new = program(("if", ASK, then(show(ONE), show(ONE)), show(ZERO)))
        maker = ("maker", ("left", "up", 0, 1), ((),))
        for ruin in ("ahead", "whole"):
            told = document(ruin=ruin)
            for inputs, most, wrong in (((0,), 9, True), ((0,), 2, True), ((0,), 1, True), ((0,), 0, False), ((1,), 9, False),
                                        ((1,), 3, False), ((1,), 2, False), ((), 9, False), ([2, 5], 200, True)):
                found = are_wrong_runs(told, old, new, BASE, ((maker, inputs, most),))
                self.assertIs(found, wrong, (ruin, inputs, most))
                self.assertIs(model_wrong_runs(told, old, new, BASE, ((maker, inputs, most),)), wrong)

    def test_bounds_are_at_most_200(self):
        maker = ("maker", ("left", "up", 0, 1), ((),))
        for most, good in ((200, True), (201, False), (-1, False), (True, False), (None, False)):
            self.assertIs(are_wrong_runs(document(), program(ONE), program(show(ONE)), BASE, ((maker, (), most),)), good)

    def test_other_bases(self):
        told = document(order=("ever", ("left", "right")))
        old, new = program(show(ONE)), program(show(BIT), ("y",))
        word, base, runs = right_program(told, old, new)
        self.assertEqual((word, base), ("wrong", ("right", None, None, None)))
        self.assertTrue(are_wrong_runs(told, old, new, base, runs))
        self.assertFalse(are_wrong_runs(told, old, new, ("left", None, None, None), runs))
        self.assertFalse(are_wrong_runs(told, old, new, base, list(runs)))
        self.assertTrue(are_wrong_runs(told, old, new, base, ((runs[0][0], list(runs[0][1]), runs[0][2]),)))
        for thing in STRANGE:
            self.assertIs(are_wrong_runs(document=told, old=old, new=new, base=base, thing=thing), False)

    def test_one_for_each_base_of_old_that_agrees(self):
        told = document(order=("ever", ("left", "right")), walk=("program", ("up", "down")))
        word, base, runs = right_program(told, program(ONE), program(show(ONE)))
        self.assertEqual((word, base, len(runs)), ("wrong", ("left", "up", None, None), 2))
        self.assertFalse(are_wrong_runs(told, program(ONE), program(show(ONE)), base, runs[:1]))
        self.assertFalse(are_wrong_runs(told, program(ONE), program(show(ONE)), base, runs + runs[:1]))


if __name__ == "__main__":
    unittest.main()
