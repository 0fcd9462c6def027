"""Points [54] to [57]: what is to blame, borders, groupings."""

import itertools
import unittest

from anymaker.blames import blamed, hangs_on
from anymaker.borders import borders, by_modes
from anymaker.choices import choices
from anymaker.errors import TooMany
from anymaker.groupings import groupings, steady_with
from anymaker.machines import machine_of
from anymaker.ruins import ruin
from anymaker.steadies import is_steady
from anymaker.troubles import is_trouble, trouble
from tests import model
from tests.firstly import unlike_from
from tests.samples import ASK, BIT, SWAY, Maker, document, few_standings, name, number, program, put, show, small_cases, telling, telling_cases, then
from tests.test_goals import KINDS
from tests.test_steadies import flat, kepts_of

ONE = number(1)
ZERO = number(0)
BOTH = ("left", "right")
WALKS = ("up", "down")
MODES = ("kept", "free", "anew")
EVERY_MODES = list(itertools.product(MODES, MODES, MODES, MODES[:2]))


def spots_of(document, program):
    found = []
    for kind, (scope, _) in zip(KINDS, document[1:5]):
        if scope == "part":
            found += [(kind, name) for name in model.parts_of(program)]
        elif scope == "place":
            found += [(kind, place) for place in model.places(program, kind)]
        elif scope != "anew":
            found.append((kind, None))
    return found


def model_hangs_on(document, program):
    rows = choices(document, program)
    shown = [(choice, model.first(program)) for choice in rows]
    found = []
    for at, spot in enumerate(spots_of(document, program)):
        for one, other in itertools.combinations(shown, 2):
            unlike = [rank for rank, (a, b) in enumerate(zip(flat(one[0]), flat(other[0]))) if a != b]
            if unlike == [at] and unlike_from(document, program, one, other):
                found.append(spot)
                break
    return tuple(found)


def model_blamed(document, program, choice):
    found = []
    for standing in model.standings(document, program, choice):
        move = model.moves(document, program, choice, standing)
        if move[0] == "chooses":
            for other in move[3][1:]:
                if unlike_from(document, program, (choice, move[3][0]), (choice, other)):
                    found.append((move[1], move[2]))
    every = [(kind, place) for kind in KINDS[:3] for place in model.places(program, kind)]
    return tuple(pair for pair in every if pair in found)


class BlameTest(unittest.TestCase):
    def test_example(self):
        """Point [57], with the program of [36] that shows."""
        thing = program(show(("plus", put("x", ONE), name("x"))))
        told = document(order=("run", BOTH), width=("run", (2,)))
        self.assertEqual(hangs_on(document=told, program=thing), (("order", None),))
        self.assertEqual(blamed(told, thing, ("left", "up", 0, 2)), ())
        told = document(order=("anew", BOTH), width=("run", (2,)))
        self.assertEqual(hangs_on(told, thing), ())
        self.assertEqual(blamed(document=told, program=thing, choice=(None, "up", 0, 2)), (("order", ("body", (1,))),))

    def test_spots_of_parts_and_places(self):
        thing = program(show(("minus", ("call", "a"), ("call", "c"))), ("y",), (("a", BIT), ("b", BIT), ("c", BIT)))
        told = document(order=("part", BOTH), width=("run", (2,)))
        self.assertEqual(hangs_on(told, thing), (("order", "a"), ("order", "c")))
        told = document(order=("place", BOTH), width=("ever", (1, 2)))
        self.assertEqual(hangs_on(told, thing), (("order", ("a", (1,))), ("order", ("c", (1,))), ("width", None)))
        told = document(order=("place", ("left",)), width=("ever", (1,)))
        self.assertEqual(hangs_on(told, thing), ())

    def test_one_spot_of_two_is_not_seen_alone(self):
        """Two choices are unlike at one spot; the sum is unlike by parity."""
        told = document(order=("run", BOTH), walk=("run", WALKS), width=("run", (1,)))
        thing = program(show(("plus", BIT, SWAY)), ("y",))
        self.assertEqual(hangs_on(told, thing), (("order", None), ("walk", None)))

    def test_many_spots(self):
        found = set()
        for told, thing in small_cases(101, 40, 40) + telling_cases(111, 35, 90):
            rows = hangs_on(told, thing)
            self.assertEqual(rows, model_hangs_on(told, thing))
            found |= {kind for kind, _ in rows}
            self.the_one_least_set(told, thing, rows)
        self.assertEqual(found, set(KINDS))

    def the_one_least_set(self, told, thing, rows):
        """Facts of [54], where no kind is anew."""
        if any(pair[0] == "anew" for pair in told[1:5]) or len(choices(told, thing)) > 16:
            return
        machines = {choice: machine_of(told, thing, choice) for choice in choices(told, thing)}
        spots = spots_of(told, thing)
        for one, other in itertools.combinations(machines, 2):
            unlike = [spot for spot, a, b in zip(spots, flat(one), flat(other)) if a != b]
            if not set(unlike) & set(rows):
                self.assertEqual(machines[one], machines[other])
            if len(unlike) == 1 and machines[one] != machines[other]:
                self.assertIn(unlike[0], rows)

    def test_many_requests(self):
        found = set()
        for told, thing in telling_cases(102, 50, 80, ("anew", "anew", "run", "place")):
            for choice in choices(told, thing)[:4]:
                rows = blamed(told, thing, choice)
                self.assertEqual(rows, model_blamed(told, thing, choice))
                found |= {kind for kind, _ in rows}
        self.assertEqual(found, set(KINDS[:3]))

    def test_the_troubles_of_requests_are_the_blamed_ones(self):
        told = document(("anew", BOTH), ("anew", WALKS), ("anew", (0, 1)))
        thing = program(show(("plus", ("plus", BIT, SWAY, "left"), ("same", name("z"), name("z")))), ("y", "z"))
        rows = blamed(told, thing, choices(told, thing)[0])
        self.assertEqual([kind for kind, _ in rows], ["order", "walk", "fill", "fill"])
        self.assertEqual(rows[2:], (("fill", ("body", (1, 2, 1))), ("fill", ("body", (1, 2, 2)))))
        word, choice, standing, option, inputs = trouble(told, thing, ())
        move = model.moves(told, thing, choice, standing)
        self.assertIn((move[1], move[2]), rows)

    def test_steady_without_blame_and_rings(self):
        """Facts of [54]: then all hangs on spots alone."""
        came = [0, 0]
        for told, thing in telling_cases(103, 100, 80):
            if ruin(told, thing)[0] == "ruined" or any(blamed(told, thing, choice) for choice in choices(told, thing)):
                continue
            spots = {kind for kind, _ in hangs_on(told, thing)}
            every = tuple(kind for kind, pair in zip(KINDS, told[1:5]) if pair[0] != "anew")
            fault = trouble(told, thing, every)
            if fault is not None and fault[0] == "ring":
                self.assertTrue(is_trouble(told, thing, every, fault))
                continue
            for kept in kepts_of(told):
                self.assertEqual(is_steady(told, thing, kept), spots <= set(kept))
                came[spots <= set(kept)] += 1
        self.assertGreater(min(came), 10)


class BorderTest(unittest.TestCase):
    def test_by_modes(self):
        told = document(("ever", BOTH), ("part", WALKS), ("anew", (0, "none")), ("program", (1, 2)), "whole")
        self.assertEqual(by_modes(document=told, modes=("kept", "free", "anew", "free")),
                         document(("run", BOTH), ("run", WALKS), ("anew", (0, "none")), ("run", (1, 2)), "whole"))
        self.assertEqual(by_modes(told, ("anew", "anew", "kept", "kept")),
                         document(("anew", BOTH), ("anew", WALKS), ("run", (0, "none")), ("run", (1, 2)), "whole"))

    def test_example(self):
        """Point [55]: anew does not go kind by kind."""
        unlike = ("plus", ("same", BIT, BIT, "left"), ("same", SWAY2, SWAY2, "left"), "left")
        thing = program(show(("same", unlike, ZERO, "left")), ("y", "z"))
        told = document(("ever", BOTH), ("place", WALKS), ("part", (0,)), ("program", (2,)))
        self.assertEqual(borders(document=told, program=thing), (
            (("free", "anew", "anew", "free"), ("anew", "free", "anew", "free")), (("anew", "anew", "kept", "kept"),)))

    def test_all_and_none(self):
        told = document(("run", BOTH), ("run", WALKS), ("run", (0, 1)), ("run", (1, 2)))
        self.assertEqual(borders(told, program(ONE)), ((("anew", "anew", "anew", "free"),), ()))
        self.assertEqual(borders(told, program(("over", ONE, ZERO))), ((), (("kept",) * 4,)))
        self.assertEqual(borders(told, program(show(number(2)))),
                         ((("anew", "anew", "anew", "kept"),), (("kept", "kept", "kept", "free"),)))

    def steady(self, told, thing):
        found = {}
        for modes in EVERY_MODES:
            kept = tuple(kind for kind, mode in zip(KINDS, modes) if mode == "kept")
            found[modes] = is_steady(by_modes(told, modes), thing, kept)
        return found

    def below(self, one, other):
        return all(MODES.index(a) <= MODES.index(b) for a, b in zip(one, other))

    def test_many(self):
        shapes = set()
        for told, thing in small_cases(104, 20, 25) + telling_cases(114, 25, 60):
            steady = self.steady(told, thing)
            greatest, least = borders(told, thing)
            good = [modes for modes in EVERY_MODES if steady[modes]]
            bad = [modes for modes in EVERY_MODES if not steady[modes]]
            self.assertEqual(list(greatest), [one for one in good if not any(self.below(one, two) for two in good if two != one)])
            self.assertEqual(list(least), [one for one in bad if not any(self.below(two, one) for two in bad if two != one)])
            for modes in EVERY_MODES:
                under, above = any(self.below(modes, one) for one in greatest), any(self.below(one, modes) for one in least)
                self.assertEqual([under, above], [steady[modes], not steady[modes]])
            self.kind_by_kind(steady)
            shapes.add((len(greatest), len(least)))
        self.assertGreater(len(shapes), 2)

    def kind_by_kind(self, steady):
        """Facts of [55]: both kinds may be free if each of them may."""
        for modes in EVERY_MODES:
            kept = [at for at, mode in enumerate(modes) if mode == "kept"]
            for one, other in itertools.combinations(kept, 2):
                freed = [modes[:at] + ("free",) + modes[at + 1:] for at in (one, other)]
                both = freed[0][:other] + ("free",) + freed[0][other + 1:]
                self.assertEqual(steady[freed[0]] and steady[freed[1]], steady[both])


SWAY2 = then(("each", "z", 0, 1, ZERO), name("z"))


def is_finer(one, other):
    return one != other and all(other[a] == other[b] for a in range(len(one)) for b in range(len(one)) if one[a] == one[b])


def all_groupings(many):
    rows = itertools.product(range(many), repeat=many)
    return [row for row in rows if all(row[at] <= max(row[:at], default=-1) + 1 for at in range(many))]


class GroupingTest(unittest.TestCase):
    told = document(("part", BOTH))

    def calls(self, body, parts):
        return program(body, ("y",), tuple((part, BIT) for part in parts))

    def test_example(self):
        """Point [56]."""
        thing = self.calls(show(("same", ("call", "a"), ("call", "b"))), "ab")
        self.assertEqual(groupings(document=self.told, program=thing), (((0, 0, 1),), ((0, 1, 0), (0, 1, 1))))
        for grouping, steady in (((0, 0, 0), True), ((0, 0, 1), True), ((0, 1, 0), False), ((0, 1, 1), False), ((0, 1, 2), False)):
            self.assertIs(steady_with(document=self.told, program=thing, grouping=grouping), steady)

    def test_what_both_part(self):
        """Facts of [56]: it shows 1 just if the orders of a and b are unlike, and those of b and c."""
        body = show(("times", ("minus", ONE, ("same", ("call", "a"), ("call", "b"), "left"), "left"),
                     ("minus", ONE, ("same", ("call", "b"), ("call", "c"), "left"), "left"), "left"))
        thing = self.calls(body, "abc")
        for grouping, steady in (((0, 0, 1, 0), True), ((0, 0, 1, 2), True), ((0, 1, 1, 2), True), ((0, 1, 2, 3), False),
                                 ((0, 1, 0, 0), False)):
            self.assertIs(steady_with(self.told, thing, grouping), steady)
        self.assertEqual(groupings(self.told, thing)[0], ((0, 0, 1, 2), (0, 1, 1, 2)))

    def test_one_part_five_and_six(self):
        self.assertEqual(groupings(self.told, program(ONE)), (((0,),), ()))
        self.assertEqual(groupings(self.told, program(show(BIT), ("y",))), ((), ((0,),)))
        five = self.calls(show(("same", ("call", "a"), ("call", "d"))), "abcd")
        finest, coarsest = groupings(self.told, five)
        self.assertEqual(finest, ((0, 1, 2, 0, 3),))
        self.assertTrue(all(max(row) == 1 and row[0] != row[3] for row in coarsest))
        six = self.calls(ONE, "abcde")
        with self.assertRaises(TooMany) as caught:
            groupings(self.told, six)
        self.assertEqual(caught.exception.most, 5)
        self.assertTrue(steady_with(self.told, six, (0, 1, 2, 3, 4, 5)))
        wide = document(("place", BOTH), ("part", WALKS))
        for thing, most in ((six, 5), (self.calls(then(*[("plus", ONE, ONE)] * 9), "abcd"), 400)):
            with self.assertRaises(TooMany) as caught:
                groupings(wide, thing)
            self.assertEqual(caught.exception.most, most)

    def test_kinds_of_other_scopes_are_free(self):
        thing = self.calls(show(("same", ("call", "a"), ("call", "b"))), "ab")
        for scope, steady in (("place", False), ("run", True), ("anew", False), ("ever", True)):
            told = document((scope, BOTH))
            every = all_groupings(3)
            self.assertEqual(groupings(told, thing), ((every[-1:][0],), ()) if steady else ((), (every[0],)))

    def test_many(self):
        shapes = set()
        maker = Maker(105)
        came = 0
        while came < 60:
            ruling = maker.document(("part", "part", "part", "run", "anew", "place"))
            body = maker.some((show(("minus", ("call", "p"), ("call", "q"))), show(("same", ("call", "q"), BIT)),
                               show(("plus", ("call", "p"), ("minus", ("call", "q"), SWAY2)))))
            inner = [telling(maker, maker.some((0, 1)), (), False) for _ in range(2)]
            thing = program(body, ("x", "y", "z"), tuple(zip("pq", inner)))
            if not few_standings(ruling, thing, 300):
                continue
            came += 1
            steady = {}
            for grouping in all_groupings(3):
                rows = [choice for choice in choices(ruling, thing) if self.is_shared(ruling, choice, grouping)]
                steady[grouping] = self.same_for_all(ruling, thing, rows)
                self.assertEqual(steady_with(ruling, thing, grouping), steady[grouping], (ruling, thing, grouping))
            finest, coarsest = groupings(ruling, thing)
            good = [one for one in steady if steady[one]]
            bad = [one for one in steady if not steady[one]]
            self.assertEqual(list(finest), [one for one in good if not any(is_finer(two, one) for two in good)])
            self.assertEqual(list(coarsest), [one for one in bad if not any(is_finer(one, two) for two in bad)])
            for one in steady:
                self.assertEqual(steady[one], any(one == two or is_finer(two, one) for two in finest))
                self.assertEqual(not steady[one], any(one == two or is_finer(one, two) for two in coarsest))
            shapes.add((finest, coarsest))
        self.assertGreater(len(shapes), 3)

    def is_shared(self, told, choice, grouping):
        for (scope, _), item in zip(told[1:5], choice):
            if scope == "part" and any(item[a] != item[b] for a in range(len(item)) for b in range(len(item))
                                       if grouping[a] == grouping[b]):
                return False
        return True

    def same_for_all(self, told, thing, rows):
        """By single choices that are steady, and shown alike."""
        first = model.first(thing)
        for choice in rows:
            alone = told[:1] + tuple(pair for pair in told[1:5]) + told[5:]
            every = tuple(kind for kind, pair in zip(KINDS, told[1:5]) if pair[0] != "anew")
            if not self.sure(alone, thing, choice, every) or unlike_from(told, thing, (rows[0], first), (choice, first)):
                return False
        return True

    def sure(self, told, thing, choice, every):
        """Whether under a choice no request, silent round or ruin matters."""
        for standing in model.standings(told, thing, choice):
            move = model.moves(told, thing, choice, standing)
            if model.ruinous(move):
                return False
            if any(unlike_from(told, thing, (choice, standing), (choice, one)) for one in model.silent(move)):
                return False
            lot = model.closed(told, thing, choice, [standing])
            ends = model.ends_of(told, thing, choice, lot)
            if "never" in ends and len(ends) > 1:
                return False
        return True


if __name__ == "__main__":
    unittest.main()
