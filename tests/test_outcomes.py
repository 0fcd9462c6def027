"""Point [130]: loose documents, and what comes of parts in linked runs."""

import itertools
import unittest

from anymaker.choices import choices
from anymaker.errors import BadDocument, BadMemory, BadPart, BadProgram, Tight
from anymaker.outcomes import outcomes
from tests import linked, model
from tests.linked import PLAIN, cases, end_rank
from tests.nearly import STRANGE
from tests.samples import ASK, BIT, document, name, number, program, put, show, then

ONE = number(1)
ZERO = number(0)
BOTH = ("left", "right")
HALF = ("over", ONE, name("x"))
THING = program(then(put("x", ONE), ("call", "half")), ("x",), (("half", HALF),))


def ends_of_runs(told, thing):
    """The ends of plain runs of a program, and whether one is ruined."""
    ruined, ends = False, set()
    for choice in choices(told, thing):
        for standing in model.standings(told, thing, choice):
            move = model.moves(told, thing, choice, standing)
            ruined = ruined or model.ruinous(move)
            if move[0] == "ends":
                ends.add((move[1], standing[1]))
    return ruined, ends


class OutcomeTest(unittest.TestCase):
    def test_ordinary(self):
        self.assertEqual(outcomes(document=PLAIN, program=THING, part="half", memory=(1,)), (False, ((1, (1,)),)))
        self.assertEqual(outcomes(PLAIN, THING, "half", (0,)), (True, ()))
        self.assertEqual(outcomes(PLAIN, THING, "half", (None,)), (True, ((1, (None,)),)))
        self.assertEqual(outcomes(PLAIN, THING, "body", (None,)), (False, ((1, (1,)),)))

    def test_ends_ascend_by_worths_then_memories(self):
        told = document(("anew", BOTH), fill=("anew", (0, 1)))
        thing = program(then(("if", ASK, put("x", name("x")), ZERO), name("x")), ("x", "y"))
        found = outcomes(told, thing, "body", (None, 1))[1]
        self.assertEqual(found, ((0, (None, 1)), (0, (0, 1)), (1, (None, 1)), (1, (1, 1))))
        self.assertEqual(list(found), sorted(found, key=end_rank))

    def test_no_end(self):
        self.assertEqual(outcomes(PLAIN, program(("while", ONE, ZERO)), "body", (0,)), (False, ()))
        loop = program(then(("call", "p"), ("over", ONE, ZERO)), ("x",), (("p", ("while", ONE, ZERO)),))
        self.assertEqual(outcomes(PLAIN, loop, "body", (0,)), (False, ()))

    def test_choices_last_till_a_call_ends(self):
        """Two calls may be answered by unlike makers, one call by scope part may not."""
        part = (("bit", BIT),)
        apart = program(("minus", ("call", "bit"), ("call", "bit"), "left"), ("y",), part)
        alone = program(("minus", BIT, BIT, "left"), ("y",))
        worths = {}
        for scope in ("part", "place", "anew"):
            told = document((scope, BOTH), width=("run", (2,)))
            worths[scope] = [sorted({worth for worth, _ in outcomes(told, thing, "body", (None,))[1]}) for thing in (apart, alone)]
        self.assertEqual(worths, {"part": [[0, 1, 3], [0]], "place": [[0, 1, 3], [0, 1, 3]], "anew": [[0, 1, 3], [0, 1, 3]]})

    def test_a_place_met_twice_in_one_call(self):
        turn = put("x", ("plus", ("plus", name("x"), name("x"), "left"), BIT, "left"))
        loop = program(then(put("x", ZERO), ("each", "z", 0, 1, turn, "up"), name("x")), ("x", "y", "z"))
        for scope, worths in (("part", [0, 3]), ("place", [0, 3]), ("anew", [0, 1, 2, 3])):
            told = document((scope, BOTH), width=("run", (2,)))
            ends = outcomes(told, loop, "body", (None, None, None))[1]
            self.assertEqual(sorted({worth for worth, _ in ends}), worths)

    def test_many(self):
        found = set()
        for told, thing in cases(231, 40):
            for part in [one for one, _ in thing[2]] + ["body"]:
                for memory in ((None,), (0,), (1,)):
                    mine = outcomes(told, thing, part, memory)
                    self.assertEqual(mine, linked.outcome(told, thing, part, memory), (told, thing, part, memory))
                    found.add((mine[0], min(3, len(mine[1]))))
        self.assertGreater(len(found), 5)

    def test_what_runs_show_linked_runs_show(self):
        """FACT of [130]; they may show more."""
        twice = program(("minus", ("call", "bit"), ("call", "bit"), "left"), ("y",), (("bit", BIT),))
        more = 0
        for told, thing in cases(232, 40) + [(document(("part", BOTH)), twice), (document(("place", BOTH)), twice)]:
            ruined, ends = ends_of_runs(told, thing)
            mine = outcomes(told, thing, "body", (None,))
            self.assertLessEqual(ends, set(mine[1]))
            self.assertLessEqual(ruined, mine[0])
            more += ends != set(mine[1]) or ruined != mine[0]
        self.assertGreater(more, 1)

    def test_tight_documents(self):
        for scope in ("ever", "program", "run"):
            for tight in (document((scope, BOTH)), document(walk=(scope, ("up", "down"))), document(fill=(scope, (0, 1))),
                          document(width=(scope, (1, 2)))):
                with self.assertRaises(Tight):
                    outcomes(tight, None, None, None)
        for scope in ("ever", "program", "run", "part", "place", "anew"):
            self.assertEqual(outcomes(document((scope, ("right",))), program(ONE), "body", (None,)), (False, ((1, (None,)),)))
        with self.assertRaises(BadDocument):
            outcomes(None, None, None, None)
        with self.assertRaises(BadProgram):
            outcomes(PLAIN, None, None, None)

    def test_wrong_parts_and_memories(self):
        for part in STRANGE + ("half ", "x", ["half"]):
            with self.assertRaises(BadPart):
                outcomes(PLAIN, THING, part, None)
        for memory in ((), (2,), (0, 0), [0], (True,), ("0",), None, 0, (-1,)):
            with self.assertRaises(BadMemory):
                outcomes(PLAIN, THING, "half", memory)
        self.assertEqual(outcomes(document(width=("run", (3,))), THING, "half", (7,)), (False, ((0, (7,)),)))


if __name__ == "__main__":
    unittest.main()
