"""Points [43], [47]: what a goal needs and what keeps it away."""

import itertools
import unittest

from anymaker.comings import comes
from anymaker.choices import choices
from anymaker.goals import least_bans, least_lots, widest
from anymaker.sheets import sheet
from tests import model
from tests.samples import ASK, document, name, number, program, put, show, small_cases, then

ONE = number(1)
KINDS = ("order", "walk", "fill", "width")
GOALS = ("ends", "never", "ruined", ("shown", 0), ("shown", 1), ("asked", 2))


def pairs_of(document):
    return [(kind, option) for kind, pair in zip(KINDS, document[1:5]) for option in pair[1]]


def used_by(document, program, choice, standing):
    """The pair that a step takes from the choice, or None."""
    def active(node):
        inner = {"set": [2], "show": [1], "if": [1], "then": [1]}.get(node[0], [])
        if node[0] in model.OPERATIONS and node[3] in ("left", "right"):
            inner = [1, 2] if node[3] == "left" else [2, 1]
        for at in inner:
            if node[at][0] != "number":
                return active(node[at])
        return node
    node = active(standing[0])
    kind = {"each": "walk", "name": "fill"}.get(node[0], "order" if node[0] in model.OPERATIONS else None)
    if kind is None or not isinstance(node[-1], tuple):
        return None
    if kind == "fill" and standing[1][program[1].index(node[1])] is not None:
        return None
    option = model.answer(document, program, choice, kind, node[-1])
    return None if option is None else (kind, option)


def comes_under(document, program, goal, lot):
    """By going wherever the pairs of the lot lead."""
    for choice in choices(document, program):
        if ("width", choice[3]) in lot and comes_by(document, program, choice, goal, lot):
            return True
    return False


def comes_by(document, program, choice, goal, lot):
    seen, behind, hit = [model.first(program)], {}, False
    for standing in seen:
        move = model.moves(document, program, choice, standing)
        used = used_by(document, program, choice, standing)
        nexts = []
        if move[0] == "chooses":
            let = document[1 + KINDS.index(move[1])][1]
            taken = [one for option, one in zip(let, move[3]) if (move[1], option) in lot]
            nexts = [one for one in taken if one is not None]
            hit = hit or goal == "ruined" and None in taken
        elif used is None or used in lot:
            nexts = model.silent(move)
            hit = hit or goal == move[0]
        behind[standing] = nexts
        hit = hit or goal in [event for event, _ in model.eventful(move)]
        for one in nexts + [one for _, one in model.eventful(move)]:
            if one not in seen:
                seen.append(one)
    if goal == "never":
        for standing in seen:
            reached = list(behind[standing])
            for one in reached:
                reached += [other for other in behind[one] if other not in reached]
            hit = hit or standing in reached
    return hit


class GoalTest(unittest.TestCase):
    told = document(order=("anew", ("left", "right")), fill=("anew", (0, "none")), width=("run", (2,)))
    thing = program(show(("plus", put("x", ONE), name("x"))))

    def test_example(self):
        """Point [47]."""
        self.assertEqual(least_lots(self.told, self.thing, ("shown", 1)),
                         ((("order", "right"), ("fill", 0), ("width", 2)),))
        self.assertEqual(least_bans(self.told, self.thing, ("shown", 1)),
                         ((("order", "right"),), (("fill", 0),), (("width", 2),)))
        self.assertEqual(widest(self.told, self.thing, ("shown", 1)), (
            document(("anew", ("left",)), fill=("anew", (0, "none")), width=("run", (2,))),
            document(("anew", ("left", "right")), fill=("anew", ("none",)), width=("run", (2,)))))

    def test_a_goal_that_never_comes(self):
        for goal in ("never", ("shown", 3), ("asked", 0)):
            self.assertEqual(least_lots(document=self.told, program=self.thing, goal=goal), ())
            self.assertEqual(least_bans(document=self.told, program=self.thing, goal=goal), ((),))
            self.assertEqual(widest(document=self.told, program=self.thing, goal=goal), (self.told,))

    def test_ruin_uses_none(self):
        self.assertEqual(least_lots(self.told, self.thing, "ruined"),
                         ((("order", "right"), ("fill", "none"), ("width", 2)),))
        chosen = document(fill=("run", (0, "none")))
        self.assertEqual(least_lots(chosen, program(name("x")), "ruined"), ((("fill", "none"), ("width", 1)),))
        self.assertEqual(least_lots(chosen, program(("over", ONE, ("name", "x", 0))), "ruined"),
                         ((("order", "left"), ("width", 1)),))
        self.assertEqual(least_lots(chosen, program(("over", ONE, ("name", "x", 0), "left")), "ruined"), ((("width", 1),),))

    def test_never_uses_what_the_round_uses(self):
        told = document(("anew", ("left", "right")), fill=("anew", (0, 1)))
        thing = program(("while", ("same", name("x"), number(0), "left"), ("plus", ONE, ONE)))
        self.assertEqual(least_lots(told, thing, "never"), (
            (("order", "left"), ("fill", 0), ("width", 1)), (("order", "right"), ("fill", 0), ("width", 1))))
        self.assertEqual(least_lots(told, thing, "ends"), ((("fill", 1), ("width", 1)),))
        self.assertEqual(least_bans(told, thing, "never"), (
            (("fill", 0),), (("width", 1),), (("order", "left"), ("order", "right"))))

    def test_pinned_nodes_use_nothing(self):
        thing = program(show(("plus", ("name", "x", 1), ("each", "x", 0, 0, ONE, "up"), "left")))
        self.assertEqual(least_lots(self.told, thing, ("shown", 1)), ((("width", 2),),))

    def test_goal_of_an_event_needs_what_is_up_to_it(self):
        thing = program(then(ASK, show(ONE), ("plus", ONE, ONE)))
        self.assertEqual(least_lots(self.told, thing, ("asked", 5)), ((("width", 2),),))
        self.assertEqual(least_lots(self.told, thing, ("shown", 1)), ((("width", 2),),))
        self.assertEqual(least_lots(self.told, thing, "ends"),
                         ((("order", "left"), ("width", 2)), (("order", "right"), ("width", 2))))

    def test_many_against_all_lots(self):
        came = 0
        for told, thing in small_cases(29, 40, 30):
            pairs = pairs_of(told)
            if len(pairs) > 7:
                continue
            lots = [lot for many in range(len(pairs) + 1) for lot in itertools.combinations(pairs, many)]

            def rank(lot):
                return (len(lot), [pairs.index(pair) for pair in lot])
            for goal in GOALS:
                good = [lot for lot in lots if comes_under(told, thing, goal, lot)]
                least = [lot for lot in good if not any(set(one) < set(lot) for one in good)]
                self.assertEqual(least_lots(told, thing, goal), tuple(sorted(least, key=rank)))
                banned = [lot for lot in lots if all(set(lot) & set(one) for one in good)]
                bans = [lot for lot in banned if not any(set(one) < set(lot) for one in banned)]
                self.assertEqual(least_bans(told, thing, goal), tuple(sorted(bans, key=rank)))
                came += bool(least)
        self.assertGreater(came, 30)

    def test_widest_are_all_documents_by_which_the_goal_never_comes(self):
        """With the same scopes and some of the options."""
        for told, thing in small_cases(30, 25, 25, depth=2):
            for goal in GOALS[:4]:
                wide = widest(told, thing, goal)
                rows = [[options for many in range(1, len(pair[1]) + 1)
                         for options in itertools.combinations(pair[1], many)] for pair in told[1:5]]
                for options in itertools.product(*rows):
                    lesser = ("document",) + tuple((pair[0], one) for pair, one in zip(told[1:5], options)) + told[5:]
                    inside = any(all(set(a) <= set(b[1]) for a, b in zip(options, one[1:5])) for one in wide)
                    self.assertEqual(inside, not goal_comes(lesser, thing, goal))


def goal_comes(document, program, goal):
    """Told by the sheet of all showings."""
    for ends, goes in sheet(document, program):
        if goal in ends or goal in [event for event, _ in goes]:
            return True
    return False


if __name__ == "__main__":
    unittest.main()
