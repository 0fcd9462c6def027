"""Point [84]: variables that are set ahead, and those whose reading ruins."""

import itertools
import unittest

from anymaker.aheads import ruin_lots, set_ahead, set_lots
from anymaker.choices import choices
from anymaker.errors import FixedFill
from anymaker.programs import is_program
from anymaker.ruins import ruin
from anymaker.trees import nodes_of
from tests import model
from tests.samples import ASK, Maker, document, few_standings, name, number, program, put, show, then

ONE = number(1)
ZERO = number(0)


def lots_of(names):
    return [lot for many in range(len(names) + 1) for lot in itertools.combinations(names, many)]


def least_of(lots):
    return tuple(lot for lot in lots if not any(set(one) < set(lot) for one in lots))


def model_set_lots(document, program, n):
    def ahead(lot):
        return program[:3] + (then(*[put(x, number(n)) for x in lot], program[3]),)
    return least_of([lot for lot in lots_of(program[1]) if ruin(document, ahead(lot))[0] == "safe"])


def read_here(document, program, choice, standing):
    """The unset variable that a step reads, and as what, or the place where it is asked for; None if none."""
    node = standing[0]
    while True:
        inner = {"set": [2], "show": [1], "if": [1], "then": [1]}.get(node[0], [])
        if node[0] in model.OPERATIONS and node[3] in ("left", "right"):
            inner = [1, 2] if node[3] == "left" else [2, 1]
        at = [at for at in inner if node[at][0] != "number"]
        if not at:
            break
        node = node[at[0]]
    if node[0] != "name" or standing[1][program[1].index(node[1])] is not None:
        return None
    return node[1], node[2]


def model_ruin_lots(document, program, n):
    found = []
    for lot in lots_of(program[1]):
        for choice in choices(document, program):
            seen, ruined = [model.first(program)], False
            for standing in seen:
                move = model.moves(document, program, choice, standing)
                behind = [one for _, one in model.eventful(move)] + model.silent(move)
                read = read_here(document, program, choice, standing)
                ruins = model.ruinous(move)
                if read is not None and read[0] not in lot:
                    size = 2 ** choice[3]
                    if move[0] == "chooses":
                        behind = [one for fill, one in zip(document[3][1], move[3]) if fill != "none" and fill % size == n % size]
                        ruins = False
                    elif read[1] % size != n % size:
                        behind, ruins = [], False
                ruined = ruined or ruins
                seen += [one for one in behind if one not in seen]
            if ruined:
                found.append(lot)
                break
    return least_of(found)


class AheadTest(unittest.TestCase):
    def test_set_ahead(self):
        thing = program(show(name("x")), ("x", "y", "z"), (("p", ONE),))
        self.assertEqual(set_ahead(thing, (), 3), thing)
        self.assertEqual(set_ahead(program=thing, names=("y",), n=7)[3], ("then", put("y", number(7)), thing[3]))
        told = set_ahead(thing, ("x", "z"), 0)
        self.assertEqual(told, thing[:3] + (("then", put("x", ZERO), ("then", put("z", ZERO), thing[3])),))
        self.assertTrue(is_program(told))
        self.assertEqual(set_ahead(thing, ("x", "y", "z"), 1)[3], then(put("x", ONE), put("y", ONE), put("z", ONE), thing[3]))

    def test_ordinary(self):
        told = document(("anew", ("left", "right")), fill=("anew", (1, "none")))
        thing = program(("over", name("y"), name("x")), ("x", "y", "z"))
        self.assertEqual(set_lots(told, thing, 1), (("x", "y"),))
        self.assertEqual(ruin_lots(told, thing, 1), (("x",), ("y",)))
        wide = document(fill=("anew", (0, 1)))
        self.assertEqual(set_lots(wide, thing, 1), (("x",),))
        self.assertEqual(set_lots(wide, thing, 0), ())
        self.assertEqual(ruin_lots(wide, thing, 1), (("x",),))
        self.assertEqual(ruin_lots(wide, thing, 0), ((),))

    def test_lots_that_never_or_always_do(self):
        told = document(fill=("anew", (0, 1)))
        for body, sets, ruins in ((ONE, ((),), ()), (("over", ONE, ZERO), (), ((),)), (ASK, ((),), ())):
            self.assertEqual(set_lots(told, program(body), 0), sets)
            self.assertEqual(ruin_lots(told, program(body), 0), ruins)

    def test_either_of_two(self):
        told = document(fill=("anew", (0, 1)))
        unlike = ("if", ("same", name("x"), name("y")), ZERO, ("over", ONE, ZERO))
        self.assertEqual(set_lots(told, program(unlike, ("x", "y")), 0), (("x", "y"),))
        self.assertEqual(ruin_lots(told, program(unlike, ("x", "y")), 0), (("x",), ("y",)))
        both = ("over", ONE, ("plus", ("same", name("x"), ZERO), ("same", name("y"), ZERO)))
        wide = document(fill=("anew", (0, 1)), width=("run", (2,)))
        self.assertEqual(set_lots(wide, program(both, ("x", "y")), 0), (("x",), ("y",)))
        self.assertEqual(ruin_lots(wide, program(both, ("x", "y")), 0), (("x", "y"),))

    def test_modulo_the_width(self):
        told = document(fill=("anew", (1, 3)))
        self.assertEqual(set_lots(told, program(("over", ONE, name("x"))), 3), ((),))
        self.assertEqual(ruin_lots(told, program(("over", ONE, name("x"))), 3), ())
        two = document(fill=("anew", (0, 2)))
        self.assertEqual(ruin_lots(two, program(("over", ONE, name("x"))), 2), ((),))
        wide = document(fill=("anew", (0, 2)), width=("run", (1, 2)))
        self.assertEqual(ruin_lots(wide, program(("over", ONE, name("x"))), 2), ((),))
        self.assertEqual(ruin_lots(two[:4] + (("run", (2,)), "ahead"), program(("over", ONE, name("x"))), 2), (("x",),))

    def test_pinned_names(self):
        """Reading a pinned name is a reading, too: setting it ahead may ruin."""
        told = document(fill=("anew", (0, 1)), width=("run", (2,)))
        thing = program(("over", ONE, ("name", "x", 2)), ("x", "y"))
        self.assertEqual(set_lots(told, thing, 0), ((),))
        ruined = program(("over", ONE, ("name", "x", 0)), ("x", "y"))
        self.assertEqual(set_lots(told, ruined, 1), (("x",),))
        self.assertEqual(ruin_lots(told, ruined, 1), (("x",),))
        self.assertEqual(ruin_lots(told, ruined, 0), ((),))

    def test_a_fill_that_is_not_anew(self):
        body = ("if", ("same", name("x"), name("y")), ZERO, ("over", ONE, ZERO))
        for scope in ("ever", "program", "part", "place", "run"):
            for call in (set_lots, ruin_lots):
                for n in (0, 9, None):
                    with self.assertRaises(FixedFill):
                        call(document(fill=(scope, (0, 1))), program(body, ("x", "y")), n)
        fixed = document(fill=("run", (0, 1)))
        self.assertEqual(ruin(fixed, program(body, ("x", "y")))[0], "safe")
        self.assertEqual(ruin(fixed, set_ahead(program(body, ("x", "y")), ("x",), 0))[0], "ruined")

    def test_pinned_names_modulo_the_width(self):
        for width, n, pin, ruins in ((2, 1, 3, (("x",),)), (2, 3, 3, ((),)), (1, 1, 3, ((),)), (1, 0, 3, (("x",),)), (2, 3, 1, (("x",),)),
                                     (3, 2, 2, ((),)), (3, 1, 2, (("x",),))):
            told = document(fill=("anew", (0, 1, 2, 3)), width=("run", (width,)))
            body = ("over", ONE, ("minus", ("name", "x", pin), number(pin)))
            self.assertEqual(ruin_lots(told, program(body), n), ruins)
            self.assertEqual(model_ruin_lots(told, program(body), n), ruins)

    def cases(self, seed, many, pins):
        maker = Maker(seed)
        while many:
            told = maker.document(("anew", "anew", "run"), most=3)
            told = told[:3] + (("anew", told[3][1]),) + told[4:]
            names = maker.some((("x", "y"), ("a", "b", "c")))
            thing = maker.program(3, names, asks=maker.some((True, False)), pins=pins)
            thing = thing[:3] + (maker.some((thing[3], ("over", thing[3], name(names[0])), ("over", ONE, thing[3]))),)
            numbers = [one for one in told[3][1] if one != "none"]
            if numbers and few_standings(told, thing, 60):
                many -= 1
                yield told, thing, maker.some(numbers)

    def test_many(self):
        found = set()
        for pins, seed in ((True, 81), (False, 82)):
            for told, thing, n in self.cases(seed, 70, pins):
                sets, ruins = set_lots(told, thing, n), ruin_lots(document=told, program=thing, n=n)
                self.assertEqual(sets, model_set_lots(told, thing, n))
                self.assertEqual(ruins, model_ruin_lots(told, thing, n))
                found.add((len(sets), max([len(lot) for lot in sets] or [-1])))
                found.add((len(ruins), max([len(lot) for lot in ruins] or [-1])))
        self.assertTrue({(0, -1), (1, 0), (1, 1), (1, 2), (2, 1)} <= found, found)

    def test_each_is_the_mirror_of_the_other(self):
        """HEART of [84], where no name is pinned."""
        mirrored = 0
        for told, thing, n in self.cases(83, 120, True):
            nodes = [node for _, part in thing[2] + (("body", thing[3]),) for _, node in nodes_of(part)]
            if any(node[0] == "name" and len(node) == 3 for node in nodes):
                continue
            sets, ruins = set_lots(told, thing, n), ruin_lots(told, thing, n)
            for one, other in ((sets, ruins), (ruins, sets)):
                hit = [lot for lot in lots_of(thing[1]) if all(set(lot) & set(each) for each in other)]
                self.assertEqual(one, least_of(hit))
            mirrored += len(sets[:1] + ruins[:1]) == 2
        self.assertGreater(mirrored, 8)


if __name__ == "__main__":
    unittest.main()
