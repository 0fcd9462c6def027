"""Point [44]: ways that come to a goal, and bars that keep it away."""

import itertools
import unittest

from anymaker.choices import choices, is_choice
from anymaker.goals import least_bans, least_lots
from anymaker.makers import is_maker, maker_of
from anymaker.ways import barred, is_bar, is_way, way
from tests import model
from tests.nearly import STRANGE, nearly
from tests.samples import ASK, BIT, document, name, number, program, put, show, small_cases, then
from tests.test_comings import model_is_standing
from tests.test_goals import GOALS, KINDS, comes_under, pairs_of, used_by

ONE = number(1)


def step_of(document, program, maker, standing, state):
    """One step of a run by the words: (pair that is used, event, standing behind or None, state), by moves."""
    move = model.moves(document, program, maker[1], standing)
    used = used_by(document, program, maker[1], standing)
    if move[0] == "chooses":
        kinds = [kind for kind, pair in zip(KINDS, document[1:5]) if pair[0] == "anew"]
        option, after = maker[2][state][kinds.index(move[1])]
        let = document[1 + KINDS.index(move[1])][1]
        return (move[1], option), None, move[3][let.index(option)], after
    if move[0] == "goes":
        return used, move[1], move[2], state
    return used, move[0], None, state


def model_used(document, program, maker, inputs, goal):
    """What a run uses up to the goal, or None, by the words of [43]."""
    standing, state, left = model.first(program), 0, list(inputs)
    used, here, every = {("width", maker[1][3])}, [], []
    while True:
        if (standing, state) in here:
            return used if goal == "never" else None
        if (standing, state, len(left)) in every:
            return None
        here.append((standing, state))
        every.append((standing, state, len(left)))
        pair, event, behind, state = step_of(document, program, maker, standing, state)
        used |= {pair} - {None}
        if event == "asks" and left:
            event = ("asked", left.pop(0))
            behind = model.moves(document, program, maker[1], standing)[1][event[1]]
        if behind is None and event in (None, "ruined"):
            return used if goal == "ruined" else None
        if event == goal and event is not None:
            return used
        if behind is None:
            return None
        standing = behind
        if event is not None:
            here = []


def model_is_way(document, program, goal, lot, thing):
    if type(thing) is not tuple or len(thing) != 2 or not is_maker(document, program, thing[0]):
        return False
    if type(thing[1]) not in (list, tuple) or not all(type(one) is int and 0 <= one <= 7 for one in thing[1]):
        return False
    used = model_used(document, program, thing[0], thing[1], goal)
    return used is not None and used <= set(lot)


def model_is_bar(document, program, goal, ban, thing):
    rows = [choice for choice in choices(document, program) if ("width", choice[3]) not in ban]
    if type(thing) is not tuple or len(thing) != len(rows):
        return False
    for choice, pair in zip(rows, thing):
        if type(pair) is not tuple or len(pair) != 2 or not is_choice(document, program, pair[0]) or pair[0] != choice:
            return False
        lot = pair[1]
        if type(lot) is not tuple or not all(model_is_standing(document, program, choice, one) for one in lot):
            return False
        if any(lot.count(one) > 1 for one in lot) or model.first(program) not in lot:
            return False
        if not keeps_away(document, program, goal, ban, choice, lot):
            return False
    return True


def keeps_away(document, program, goal, ban, choice, lot):
    behind = {}
    for standing in lot:
        move = model.moves(document, program, choice, standing)
        used = used_by(document, program, choice, standing)
        if used in ban:
            behind[standing] = []
            continue
        events = model.eventful(move)
        nexts = model.silent(move)
        ruined = move[0] == "ruined"
        if move[0] == "chooses":
            let = document[1 + KINDS.index(move[1])][1]
            taken = [one for option, one in zip(let, move[3]) if (move[1], option) not in ban]
            nexts = [one for one in taken if one is not None]
            ruined = None in taken
        if any(one not in lot for one in nexts + [one for _, one in events]):
            return False
        if goal == move[0] == "ends" or goal == "ruined" and ruined or goal in [event for event, _ in events]:
            return False
        behind[standing] = nexts
    for standing in lot:
        reached = list(behind[standing])
        for one in reached:
            reached += [other for other in behind[one] if other not in reached]
        if goal == "never" and standing in reached:
            return False
    return True


class WayTest(unittest.TestCase):
    told = document(order=("anew", ("left", "right")), fill=("anew", (0, "none")), width=("run", (1, 2)))
    thing = program(show(("plus", put("x", ONE), name("x"))))

    def both(self, told, thing, goal, lot):
        """Whether there is a way; there is a bar for all other pairs exactly if not."""
        ban = tuple(pair for pair in pairs_of(told) if pair not in lot)
        found, bar = way(told, thing, goal, lot), barred(told, thing, goal, ban)
        self.assertEqual(found is None, bar is not None, (told, thing, goal, lot))
        if found is not None:
            self.assertTrue(is_way(told, thing, goal, lot, found), (told, thing, goal, lot, found))
            self.assertTrue(model_is_way(told, thing, goal, lot, found), (told, thing, goal, lot, found))
        else:
            self.assertTrue(is_bar(told, thing, goal, ban, bar), (told, thing, goal, ban, bar))
            self.assertTrue(model_is_bar(told, thing, goal, ban, bar), (told, thing, goal, ban, bar))
        return found is not None

    def test_example(self):
        lot = (("order", "right"), ("fill", 0), ("width", 2))
        self.assertTrue(self.both(self.told, self.thing, ("shown", 1), lot))
        for at in range(3):
            self.assertFalse(self.both(self.told, self.thing, ("shown", 1), lot[:at] + lot[at + 1:]))
        self.assertTrue(self.both(self.told, self.thing, ("shown", 2), (("order", "left"), ("width", 2))))
        self.assertTrue(self.both(self.told, self.thing, "ruined", (("order", "right"), ("fill", "none"), ("width", 1))))
        self.assertFalse(self.both(self.told, self.thing, "ruined", (("order", "right"), ("fill", 0), ("width", 1))))

    def test_empty_lots_and_bans(self):
        every = tuple(pairs_of(self.told))
        for goal in ("ends", "never", "ruined", ("shown", 1)):
            self.assertIsNone(way(self.told, self.thing, goal, ()))
            self.assertEqual(barred(self.told, self.thing, goal, every), ())
            self.assertTrue(is_bar(self.told, self.thing, goal, every, ()))
            self.assertFalse(is_bar(self.told, self.thing, goal, every, ((),)))
        self.assertIsNone(barred(self.told, self.thing, "ends", ()))
        self.assertEqual([choice for choice, _ in barred(self.told, self.thing, "never", ())],
                         list(choices(self.told, self.thing)))

    def test_a_ban_with_a_width_leaves_out_its_choices(self):
        bar = barred(self.told, self.thing, ("shown", 2), (("width", 2),))
        self.assertEqual([choice for choice, _ in bar], [(None, "up", None, 1)])
        self.assertFalse(is_bar(self.told, self.thing, ("shown", 2), (("width", 1),), bar))

    def test_pinned_nodes_use_nothing(self):
        thing = program(show(("plus", ("name", "x", 1), ("each", "x", 0, 0, ONE, "up"), "left")))
        self.assertTrue(self.both(self.told, thing, ("shown", 1), (("width", 2),)))
        self.assertFalse(self.both(self.told, program(("name", "x", 0)), "ruined", tuple(pairs_of(self.told))))

    def test_a_choice_is_used_where_a_step_takes_from_it(self):
        told = document(order=("run", ("left", "right")), fill=("place", (0, "none")))
        thing = program(then(show(ONE), ("plus", ONE, name("x"))))
        self.assertTrue(self.both(told, thing, ("shown", 1), (("width", 1),)))
        self.assertFalse(self.both(told, thing, "ends", (("fill", 0), ("width", 1))))
        self.assertFalse(self.both(told, thing, "ends", (("order", "right"), ("width", 1))))
        self.assertTrue(self.both(told, thing, "ends", (("order", "right"), ("fill", 0), ("width", 1))))
        self.assertTrue(self.both(told, thing, "ruined", (("order", "left"), ("fill", "none"), ("width", 1))))
        self.assertFalse(self.both(told, thing, "ruined", (("order", "left"), ("fill", 0), ("width", 1))))

    def test_rounds_by_pairs_of_the_lot(self):
        told = document(("anew", ("left", "right")), fill=("anew", (0, 1)))
        thing = program(("while", ("same", name("x"), number(0), "left"), ("plus", ONE, ONE)))
        for lot, comes in (((("order", "right"), ("fill", 0), ("width", 1)), True), ((("fill", 0), ("width", 1)), False),
                           ((("order", "left"), ("fill", 1), ("width", 1)), False)):
            self.assertEqual(self.both(told, thing, "never", lot), comes)

    def test_rounds_and_ruins_at_requests(self):
        told = document(("anew", ("left", "right")), fill=("anew", (0, 1)))
        every = tuple(pairs_of(told))
        for body in (("while", ("plus", ONE, name("x")), ONE), ("plus", ("while", name("x"), ONE), ONE), ("while", ONE, name("x")),
                     then(("plus", ONE, ONE), ("while", ONE, ONE)),
                     then(show(("plus", ONE, ONE)), ("while", name("x"), ONE)),
                     then(show(("plus", ONE, name("x"))), put("x", ASK), ("while", ("same", name("y"), ONE), name("y")))):
            self.assertTrue(self.both(told, program(body, ("x", "y")), "never", every))
        for body in (("over", name("x"), name("x")), then(name("x"), ("over", ONE, name("x")))):
            self.assertTrue(self.both(told, program(body), "ruined", every))

    def test_several_answers_one_behind_another(self):
        """One sequence of answers alone comes to the goal."""
        told = document(("anew", ("left", "right")), fill=("anew", (0, 1)), width=("run", (2,)))
        every = tuple(pairs_of(told))
        for answers in itertools.product((0, 1), repeat=4):
            for last, goal in ((show(number(3)), ("shown", 3)), (("over", ONE, number(0), "left"), "ruined"),
                               (("while", ONE, ONE), "never"), (("while", ("same", name("x"), ONE, "left"), ONE), "never")):
                body = last
                for at, answer in enumerate(answers):
                    told_here = BIT if at % 2 else name("z")
                    body = ("if", ("same", told_here, number(answer), "left"), body, number(0))
                thing = program(body, ("x", "y", "z"))
                self.assertTrue(self.both(told, thing, goal, every))
        self.assertFalse(self.both(told, program(show(BIT), ("y",)), ("shown", 2), every))

    def test_goals_that_are_asked(self):
        thing = program(then(ASK, show(ASK)))
        for n in range(8):
            found = way(document(), thing, ("asked", n), tuple(pairs_of(document())))
            self.assertEqual(tuple(found[1]), (n,))
        self.assertTrue(self.both(document(), thing, ("shown", 1), tuple(pairs_of(document()))))
        self.assertFalse(self.both(document(), program(ONE), ("asked", 0), tuple(pairs_of(document()))))

    def test_inputs_behind_what_was_shown(self):
        told = document(width=("run", (3,)))
        every = tuple(pairs_of(told))
        for n in range(8):
            last = ("if", ("same", ASK, number(n)), ("over", ONE, number(0)), ONE)
            thing = program(then(show(number(5)), put("x", ASK), show(number(3)), last))
            found = way(told, thing, "ruined", every)
            self.assertEqual((len(found[1]), found[1][1]), (2, n))
            self.assertTrue(self.both(told, thing, "ruined", every))

    def test_many(self):
        came = [0, 0]
        for told, thing in small_cases(61, 40, 30):
            pairs = pairs_of(told)
            if len(pairs) > 7:
                continue
            for goal in GOALS:
                least = least_lots(told, thing, goal)
                bans = least_bans(told, thing, goal)
                for many in range(len(pairs) + 1):
                    for lot in itertools.combinations(pairs, many):
                        found = self.both(told, thing, goal, lot)
                        self.assertEqual(found, comes_under(told, thing, goal, lot))
                        self.assertEqual(found, any(set(one) <= set(lot) for one in least))
                        self.assertEqual(found, all(set(one) & set(lot) for one in bans))
                        came[found] += 1
        self.assertGreater(min(came), 300)

    def test_nearly_right_ways(self):
        checked = {True: 0, False: 0}
        for told, thing in small_cases(62, 30, 20, depth=2, names=("x",)):
            every = tuple(pairs_of(told))
            for goal in GOALS:
                found = way(told, thing, goal, every)
                if found is None:
                    continue
                used = tuple(pair for pair in every if pair in model_used(told, thing, *found, goal))
                lots = [every, used] + [tuple(pair for pair in used if pair != one) for one in used]
                for other in list(nearly(found)) + [(found[0], list(found[1])), (found[0], found[1] + (3,))]:
                    for lot in lots:
                        expected = model_is_way(told, thing, goal, lot, other)
                        self.assertIs(is_way(told, thing, goal, lot, other), expected, (told, thing, goal, lot, other))
                        checked[expected] += 1
        self.assertGreater(min(checked.values()), 100)

    def test_runs_that_show_for_ever_come_to_nothing_more(self):
        thing = program(("while", ONE, show(ONE)))
        found = (("maker", ("left", "up", 0, 1), ((),)), ())
        for goal, comes in ((("shown", 1), True), (("shown", 0), False), ("never", False), ("ends", False), ("ruined", False)):
            self.assertIs(is_way(document(), thing, goal, tuple(pairs_of(document())), found), comes)

    def test_nearly_right_bars(self):
        checked = {True: 0, False: 0}
        for told, thing in small_cases(63, 9, 12, depth=2, names=("x",)):
            pairs = pairs_of(told)
            for goal in GOALS:
                bans = [(), tuple(pairs[:1]), tuple(pairs[-1:])] + list(least_bans(told, thing, goal)[:1])
                for ban in bans:
                    found = barred(told, thing, goal, ban)
                    if found is None or len(str(found)) > 420:
                        continue
                    for other in nearly(found):
                        expected = model_is_bar(told, thing, goal, ban, other)
                        self.assertIs(is_bar(told, thing, goal, ban, other), expected, (told, thing, goal, ban, other))
                        checked[expected] += 1
        self.assertGreater(min(checked.values()), 20)

    def test_bars_may_have_more(self):
        thing = program(then(show(ONE), ONE))
        bar = barred(document(), thing, "ruined", ())
        ((choice, lot),) = bar
        for more, fine in (((number(3), (0,)), True), ((("over", ONE, number(0), "left"), (0,)), False), (lot[0], False),
                           ((then(ONE, ASK), (0,)), False)):
            self.assertIs(is_bar(document(), thing, "ruined", (), ((choice, lot + (more,)),)), fine)
            self.assertIs(is_bar(document(), thing, "ruined", (), ((choice, (more,) + lot[::-1]),)), fine)
        loop = ("while", ONE, number(0))
        rest = ("if", ONE, then(number(0), loop), number(0))
        ring = tuple((one, (None,)) for one in (loop, rest, then(number(0), loop)))
        self.assertTrue(is_bar(document(), thing, "ruined", (), ((choice, lot + ring),)))
        self.assertFalse(is_bar(document(), thing, "never", (), ((choice, lot + ring),)))
        self.assertTrue(is_bar(document(), thing, "never", (), bar))

    def test_bars_judge_by_steps_without_the_ban(self):
        """A standing whose step is banned needs nothing behind it."""
        told = document(order=("anew", ("left", "right")), fill=("run", (0, "none")))
        thing = program(name("x"))
        first = model.first(thing)
        bar = ((choices(told, thing)[0], (first, (number(0), (None,)))), (choices(told, thing)[1], (first,)))
        self.assertTrue(is_bar(told, thing, "ruined", (("fill", "none"),), bar))
        self.assertFalse(is_bar(told, thing, "ruined", (("fill", 0),), bar))
        self.assertFalse(is_bar(told, thing, "ruined", (), bar))
        self.assertFalse(is_bar(told, thing, "ends", (("fill", "none"),), bar))
        short = tuple((choice, (first,)) for choice in choices(told, thing))
        self.assertTrue(is_bar(told, thing, "ends", (("fill", 0),), short))
        self.assertFalse(is_bar(told, thing, "ruined", (("fill", "none"),), short))

    def test_strange_things(self):
        for thing in STRANGE:
            for goal in ("ends", "never"):
                self.assertIs(is_way(document(), self.thing, goal, tuple(pairs_of(document())), thing), False)
                self.assertIs(is_bar(document(), self.thing, goal, (), thing), False)

    def test_makers_are_plain(self):
        found = way(self.told, self.thing, ("shown", 1), (("order", "right"), ("fill", 0), ("width", 2)))
        self.assertTrue(is_maker(self.told, self.thing, found[0]))
        other = maker_of(self.told, self.thing, (None, "up", None, 2), ["right", 0])
        self.assertTrue(is_way(self.told, self.thing, ("shown", 1), tuple(pairs_of(self.told)), (other, [5])))


if __name__ == "__main__":
    unittest.main()
