"""Part 7: pins, what they force, pin trees, least pins, what holds and what shakes."""

import itertools
import unittest

from anymaker.blames import hangs_on
from anymaker.choices import choices
from anymaker.errors import BadDocument, TooMany
from anymaker.forcing import forces, is_pin_change, pin_change
from anymaker.labellings import is_labelling, labelling
from anymaker.leastpins import idle_places, least_pins
from anymaker.machines import is_machine, least_machine, machine_of
from anymaker.pinning import are_pins, pinned, unlike, writings
from anymaker.pintrees import is_pin_tree, pin_tree
from anymaker.programs import is_program
from anymaker.runs import run
from anymaker.shaking import holding, shaking
from anymaker.steadies import is_portable
from tests import model
from tests.firstly import first_of, shows_from
from tests.nearly import STRANGE, nearly
from tests.samples import ASK, BIT, Maker, SWAY, document, few_standings, name, number, program, put, show, then

ONE = number(1)
ZERO = number(0)
BOTH = ("left", "right")
KINDS = ("order", "walk", "fill")


def sum_of(x):
    """2 by left, 1 by right."""
    return ("plus", put(x, ONE), name(x))


TWICE = document(("run", BOTH), width=("run", (2,)))
THING = program(show(("minus", sum_of("x"), sum_of("y"))), ("x", "y"))
SAME = program(show(("minus", ("call", "p"), ("call", "p"))), ("x",), (("p", then(put("x", ZERO), sum_of("x"))),))


def every_place(document, program):
    """All places with their options, by parts, then paths."""
    parts = list(model.parts_of(program))
    found = [(place, document[1 + at][1]) for at, kind in enumerate(KINDS) for place in model.places(program, kind)]
    return dict(sorted(found, key=lambda pair: (parts.index(pair[0][0]), pair[0][1])))


def all_writings(document, program):
    rows = every_place(document, program)
    return [tuple(zip(rows, options)) for options in itertools.product(*rows.values())]


def settings(document):
    """A document and a choice for programs in which all is pinned."""
    plain = document[:1] + tuple(("run", pair[1][:1]) for pair in document[1:5]) + ("ahead",)
    return plain, tuple(pair[1][0] for pair in plain[1:5])


def machine_by(document, program, writing):
    """What the program pinned by the writing shows."""
    plain, choice = settings(document)
    return machine_of(plain, pinned(program, writing), choice)


def shown_with(document, program, writing, inputs):
    plain, choice = settings(document)
    thing = pinned(program, writing)
    return shows_from(plain, thing, choice, model.first(thing), inputs, 50)


def kinds_of(document, program):
    """The machine of each writing."""
    return {writing: machine_by(document, program, writing) for writing in all_writings(document, program)}


def is_forced(kinds, pins):
    return len({kind for writing, kind in kinds.items() if set(pins) <= set(writing)}) == 1


def leaf(maker, asks):
    """Something told by one place, and what does not matter."""
    bit = then(("plus", put("y", ZERO), put("y", ONE)), ("name", "y", 0))
    sway = then(("each", "y", 0, 1, ZERO), ("name", "y", 0))
    return maker.some((bit, bit, sway, name("x"), ONE, ZERO) + ((ASK,) if asks else ()))


def tree_of(maker, depth, asks):
    if depth == 0:
        return leaf(maker, asks)
    inner = [tree_of(maker, maker.some((0, depth - 1)), asks) for _ in range(3)]
    operation = (maker.some(("plus", "minus", "times", "same", "less", "over")), inner[0], inner[1]) + maker.some(((), ("left",), ("left",)))
    return maker.some((operation, operation, ("if",) + tuple(inner), ("if",) + tuple(inner), then(show(inner[0]), inner[1]),
                       ("while", inner[0], maker.some((ZERO, ONE))), ("call", "p")))


def plain_cases(seed, many, most, places=6, asks=True):
    """Pairs for this part, with not too many writings; about half of them have two or more that show unlike."""
    maker = Maker(seed)
    found = []
    while len(found) < many:
        told = maker.document(fills=(0, 1, 2, 3), widths=(1, 2))
        fill = maker.some(((0,), (0, 1), (0, 1), (0, 1, 3)))
        told = document((told[1][0], BOTH), (told[2][0], maker.some((("up", "down"), ("up",)))), (told[3][0], fill),
                        (told[4][0], told[4][1][:1]), told[5])
        part = tree_of(maker, 1, asks)
        part = ONE if "call" in str(part) else part
        body = maker.some((show, show, lambda one: then(ASK, show(one)) if asks else one))(tree_of(maker, 3, asks))
        thing = program(body, ("x", "y"), (("p", part),))
        rows = every_place(told, thing)
        count = 1
        for options in rows.values():
            count *= len(options)
        if not 2 <= count <= 64 or len(rows) > places or not few_standings(told, thing, most * 12):
            continue
        if len({machine_by(told, thing, row) for row in all_writings(told, thing)}) > 1 or maker.random.random() < 0.15:
            found.append((told, thing))
    return found


def model_are_pins(document, program, thing):
    rows = every_place(document, program)
    if type(thing) is not tuple:
        return False
    for pair in thing:
        if type(pair) is not tuple or len(pair) != 2 or type(pair[0]) is not tuple or len(pair[0]) != 2:
            return False
        if type(pair[0][0]) is not str or type(pair[0][1]) is not tuple or any(type(at) is not int for at in pair[0][1]):
            return False
        if pair[0] not in rows or type(pair[1]) not in (int, str) or pair[1] not in rows[pair[0]]:
            return False
    ranks = [list(rows).index(place) for place, _ in thing]
    return all(one < other for one, other in zip(ranks, ranks[1:]))


def model_is_change(document, program, pins, thing):
    if type(thing) is not tuple or len(thing) != 4:
        return False
    writing, place, option, inputs = thing
    rows = every_place(document, program)
    if not model_are_pins(document, program, writing) or len(writing) != len(rows) or not set(pins) <= set(writing):
        return False
    if type(inputs) is not tuple or not all(type(one) is int and 0 <= one <= 7 for one in inputs):
        return False
    if not model_are_pins(document, program, ((place, option),)) or place in dict(pins) or dict(writing)[place] == option:
        return False
    other = tuple((one, option if one == place else told) for one, told in writing)
    return shown_with(document, program, writing, inputs) != shown_with(document, program, other, inputs)


def model_is_tree(document, program, pins, machine, thing):
    anew = document[:1] + tuple(("anew", pair[1]) for pair in document[1:4]) + document[4:]
    if type(thing) is not tuple or not thing or type(thing[0]) is not str:
        return False
    if thing[0] == "all" and len(thing) == 2:
        return is_labelling(anew, pinned(program, pins), (), thing[1]) and thing[1][0][1] == machine
    if thing[0] != "try" or len(thing) != 3 or type(thing[2]) is not tuple:
        return False
    rows = every_place(document, program)
    place = thing[1]
    if not model_are_pins(document, program, ((place, rows.get(place, (None,))[0]),) if type(place) is tuple and hashes(place) else 1):
        return False
    if place in dict(pins) or len(thing[2]) != len(rows[place]):
        return False
    wider = [tuple((one, {**dict(pins), place: option}[one]) for one in rows if one in dict(pins) or one == place)
             for option in rows[place]]
    return all(model_is_tree(document, program, more, machine, tree) for more, tree in zip(wider, thing[2]))


def hashes(thing):
    try:
        return hash(thing) is not None
    except TypeError:
        return False


def model_is_pin_tree(document, program, pins, thing):
    if type(thing) is not tuple or len(thing) != 2 or not is_machine(thing[0]) or least_machine(thing[0]) != thing[0]:
        return False
    return model_is_tree(document, program, pins, thing[0], thing[1])


class DocumentTest(unittest.TestCase):
    def test_documents_of_two_widths_or_with_none_are_refused(self):
        pins = writings(TWICE, THING)[0]
        machine_tree = pin_tree(TWICE, THING, pins)
        calls = (lambda told: are_pins(told, THING, ()), lambda told: writings(told, THING), lambda told: unlike(told, THING, pins, pins),
                 lambda told: forces(told, THING, ()), lambda told: pin_change(told, THING, ()),
                 lambda told: is_pin_change(told, THING, (), None), lambda told: pin_tree(told, THING, pins),
                 lambda told: is_pin_tree(told, THING, pins, machine_tree), lambda told: least_pins(told, THING),
                 lambda told: idle_places(told, THING), lambda told: holding(told, THING, pins), lambda told: shaking(told, THING, pins))
        for told in (document(width=("run", (1, 2))), document(fill=("run", ("none",))), document(fill=("anew", (0, "none"))),
                     document(width=("ever", (1, 2, 3))), None, document()[:5]):
            for call in calls:
                with self.assertRaises(BadDocument):
                    call(told)
        for told in (document(width=("ever", (3,))), document(fill=("place", (0, 1, 2, 3)))):
            self.assertTrue(are_pins(told, THING, ()))


class PinningTest(unittest.TestCase):
    def test_pins(self):
        rows = writings(TWICE, THING)
        self.assertEqual(len(rows), 8)
        self.assertEqual([place for place, _ in rows[0]], [
            ("body", (1,)), ("body", (1, 1)), ("body", (1, 1, 2)), ("body", (1, 2)), ("body", (1, 2, 2))])
        for pins in ((), rows[0], rows[0][:1], rows[0][2:], rows[7][1:3]):
            self.assertIs(are_pins(document=TWICE, program=THING, thing=pins), True)
        for pins in (rows[0][::-1], rows[0][:1] * 2, (rows[0][0], (rows[0][0][0], "right")), list(rows[0]),
                     ((("body", (1,)), "up"),), ((("body", (1, 1, 2)), 1),), ((("body", (1, 1, 2)), False),),
                     ((("body", (1, 1, 1)), "left"),), ((("p", (1,)), "left"),), ((("body", [1]), "left"),), ((("body", (True,)), "left"),)):
            self.assertIs(are_pins(TWICE, THING, pins), False)

    def test_places_of_several_parts_and_kinds_ascend_together(self):
        thing = program(("plus", ("call", "z"), SWAY), ("y", "x"), (("z", name("x")), ("a", SWAY)))
        told = document(("run", BOTH), ("run", ("up", "down")), ("run", (1, 3)))
        rows = writings(document=told, program=thing)
        self.assertEqual([place for place, _ in rows[0]], [
            ("z", ()), ("a", (1,)), ("a", (2,)), ("body", ()), ("body", (2, 1)), ("body", (2, 2))])
        self.assertEqual(rows, tuple(all_writings(told, thing)))
        self.assertEqual([row[-1][1] for row in rows[:4]], [1, 3, 1, 3])
        self.assertEqual(rows[-1], tuple(zip([place for place, _ in rows[0]], (3, "down", 3, "right", "down", 3))))

    def test_nearly_pins(self):
        told = document(("run", BOTH), ("run", ("up", "down")), ("run", (0, 1)))
        thing = program(("plus", SWAY, name("x")), ("x", "y"), (("p", ("less", name("y"), ("name", "y", 1))),))
        for pins in writings(told, thing)[::9] + (writings(told, thing)[3][:2],):
            for other in nearly(pins):
                self.assertIs(are_pins(told, thing, other), model_are_pins(told, thing, other), other)
        for other in STRANGE:
            self.assertIs(are_pins(told, thing, other), other == ())

    def test_too_many_writings(self):
        six = program(then(*[("plus", ONE, ONE)] * 6))
        seven = program(then(*[("plus", ONE, ONE)] * 7))
        self.assertEqual(len(writings(TWICE, six)), 64)
        pins = tuple((place, "left") for place in every_place(TWICE, seven))
        for call in (lambda: writings(TWICE, seven), lambda: forces(TWICE, seven, ()), lambda: forces(TWICE, seven, pins),
                     lambda: pin_change(TWICE, seven, ()), lambda: pin_tree(TWICE, seven, pins), lambda: least_pins(TWICE, seven),
                     lambda: idle_places(TWICE, seven), lambda: holding(TWICE, seven, pins), lambda: shaking(TWICE, seven, pins)):
            with self.assertRaises(TooMany) as caught:
                call()
            self.assertEqual(caught.exception.most, 64)
        self.assertIsNone(unlike(TWICE, seven, pins, pins))
        self.assertIs(is_pin_change(TWICE, seven, (), None), False)
        labels = labelling(document(("anew", BOTH), ("anew", ("up",)), ("anew", (0,)), ("run", (2,))), pinned(seven, pins), ())
        self.assertIs(is_pin_tree(TWICE, seven, pins, (labels[0][1], ("all", labels))), True)
        for other in (("left",), BOTH):
            plain = document(("run", other[:1]))
            self.assertEqual(len(writings(plain, program(then(*[("plus", ONE, ONE)] * 30)))), 1)

    def test_pinned(self):
        place = ("body", (1, 1))
        self.assertEqual(pinned(THING, ()), THING)
        told = pinned(program=THING, pins=((place, "right"), (("body", (1, 2, 2)), 3)))
        self.assertEqual(told, program(show(("minus", sum_of("x") + ("right",), ("plus", put("y", ONE), ("name", "y", 3)))), ("x", "y")))
        parts = program(("call", "p"), ("x",), (("p", ("each", "x", 0, 1, name("x"))),))
        self.assertEqual(pinned(parts, ((("p", ()), "down"), (("p", (4,)), 2))),
                         program(("call", "p"), ("x",), (("p", ("each", "x", 0, 1, ("name", "x", 2), "down")),)))

    def test_pinned_in_two_steps(self):
        for told, thing in plain_cases(121, 30, 60):
            for writing in all_writings(told, thing)[:5]:
                whole = pinned(thing, writing)
                self.assertTrue(is_program(whole))
                self.assertEqual(every_place(told, whole), {})
                for at in range(len(writing)):
                    half = pinned(thing, writing[::2])
                    self.assertEqual(pinned(half, writing[1::2]), whole)
                    self.assertEqual(pinned(pinned(thing, writing[at:]), writing[:at]), whole)

    def test_what_is_pinned_shows_what_the_choice_by_place_shows(self):
        for told, thing in plain_cases(122, 30, 60):
            wide = told[:1] + tuple(("place", pair[1]) for pair in told[1:4]) + told[4:]
            for choice in choices(wide, thing)[:6]:
                options = [dict(zip(model.places(thing, kind), item)) for kind, item in zip(KINDS, choice)]
                writing = tuple((place, next(row[place] for row in options if place in row)) for place in every_place(told, thing))
                plain, other = settings(told)
                for inputs in ((), (1,), (0, 3, 2)):
                    shown = run(plain, pinned(thing, writing), first_of(plain, other), inputs, 9)
                    self.assertEqual(shown, run(wide, thing, first_of(wide, choice), inputs, 9))

    def test_unlike(self):
        found = set()
        for told, thing in plain_cases(123, 40, 60):
            rows = all_writings(told, thing)[:5]
            for one, other in itertools.product(rows, repeat=2):
                inputs = unlike(document=told, program=thing, one=one, other=other)
                self.assertEqual(inputs is None, machine_by(told, thing, one) == machine_by(told, thing, other))
                lesser = [row for many in range(3) for row in itertools.product(range(8), repeat=many)]
                if inputs is not None:
                    self.assertNotEqual(*[shown_with(told, thing, row, inputs) for row in (one, other)])
                    lesser = [row for row in lesser if (len(row), row) < (len(inputs), inputs)]
                    found.add(len(inputs))
                for row in lesser[:9]:
                    self.assertEqual(*[shown_with(told, thing, writing, row) for writing in (one, other)])
        self.assertGreaterEqual(found, {0, 1})

    def test_unlike_behind_several_inputs(self):
        told = document(("run", BOTH))
        thing = program(("if", ("less", ASK, ASK), ("if", ASK, show(BIT), ZERO), ZERO), ("y",))
        one, *_, other = [row for row in writings(told, thing) if row[0][1] == "left"]
        self.assertEqual(unlike(told, thing, one, other), (0, 1, 1))
        ever = program(("while", ONE, show(BIT)), ("y",))
        self.assertEqual(unlike(told, ever, *writings(told, ever)), ())
        quiet = program(("while", BIT, ZERO), ("y",))
        self.assertEqual(unlike(told, quiet, *writings(told, quiet)), ())


class ForcingTest(unittest.TestCase):
    def test_ordinary(self):
        (left, right), (also, other) = [[((("body", (1, at)), side),) for side in BOTH] for at in (1, 2)]
        for pins, told in (((), False), (left, False), (also, False), (left + also, True), (right + other, True), (left + other, True),
                           (((("body", (1,)), "left"),), False)):
            self.assertIs(forces(document=TWICE, program=THING, pins=pins), told)
        self.assertIs(forces(TWICE, SAME, ()), True)
        self.assertIsNone(pin_change(document=TWICE, program=SAME, pins=()))
        self.assertIsNone(pin_change(TWICE, THING, left + also))

    def test_many(self):
        found = [0, 0]
        for told, thing in plain_cases(124, 28, 60):
            kinds = kinds_of(told, thing)
            for writing in list(kinds)[::5]:
                for many in range(len(writing) + 1):
                    for pins in itertools.combinations(writing, many):
                        fine = is_forced(kinds, pins)
                        self.assertIs(forces(told, thing, pins), fine)
                        found[fine] += 1
                        change = pin_change(told, thing, pins)
                        self.assertEqual(change is None, fine)
                        if not fine:
                            self.assertTrue(is_pin_change(told, thing, pins, change))
                            self.assertTrue(model_is_change(told, thing, pins, change))
                self.assertTrue(forces(told, thing, writing))
        self.assertGreater(min(found), 200)

    def test_crossing(self):
        """HEART of [62]."""
        crossed = 0
        for told, thing in plain_cases(125, 25, 50, 4):
            kinds = kinds_of(told, thing)
            rows = {pins for writing in kinds for many in range(len(writing) + 1) for pins in itertools.combinations(writing, many)}
            forcing = {pins: next(kind for writing, kind in kinds.items() if set(pins) <= set(writing))
                       for pins in rows if is_forced(kinds, pins)}
            for one, other in itertools.combinations(forcing, 2):
                if forcing[one] != forcing[other]:
                    self.assertTrue(any(dict(other).get(place, option) != option for place, option in one))
                    crossed += 1
        self.assertGreater(crossed, 50)

    def test_nearly_changes(self):
        checked = {True: 0, False: 0}
        for told, thing in plain_cases(126, 40, 30, 4):
            writing = all_writings(told, thing)[0]
            for pins in ((), writing[:1], writing[1:], writing):
                change = pin_change(told, thing, pins)
                if change is None:
                    continue
                more = [change[:3] + (list(change[3]),), change[:3] + (change[3] + (2,),), change[:3] + (change[3][:-1],)]
                more += [(row,) + change[1:] for row in all_writings(told, thing)]
                more += [(change[0], place) + change[2:] for place in every_place(told, thing)]
                for other in list(nearly(change)) + more:
                    expected = model_is_change(told, thing, pins, other)
                    self.assertIs(is_pin_change(told, thing, pins, other), expected, (told, thing, pins, other))
                    checked[expected] += 1
        self.assertGreater(min(checked.values()), 50)
        for other in STRANGE:
            self.assertIs(is_pin_change(TWICE, THING, (), other), False)


class PinTreeTest(unittest.TestCase):
    def test_ordinary(self):
        self.assertIsNone(pin_tree(document=TWICE, program=THING, pins=()))
        machine, tree = pin_tree(TWICE, SAME, ())
        self.assertEqual(machine, ("machine", (("shows", 0, 1), ("ends",))))
        self.assertEqual(tree[0], "try")
        self.assertTrue(is_pin_tree(document=TWICE, program=SAME, pins=(), thing=(machine, tree)))
        left = ((("body", (1, 1)), "left"), (("body", (1, 2)), "left"))
        self.assertTrue(is_pin_tree(TWICE, THING, left, pin_tree(TWICE, THING, left)))
        self.assertFalse(is_pin_tree(TWICE, THING, (), pin_tree(TWICE, THING, left)))

    def test_ruined_writings_have_no_tree(self):
        told = document(("run", BOTH))
        for body in (("over", ONE, ZERO), then(ASK, ("over", ONE, ASK)), ("over", ONE, BIT)):
            thing = program(body, ("y",))
            for pins in ((),) + writings(told, thing):
                ruined = any(("ruined",) in machine_by(told, thing, row)[1] for row in writings(told, thing)
                             if set(pins) <= set(row))
                self.assertEqual(pin_tree(told, thing, pins) is None, ruined or not forces(told, thing, pins))
        self.assertTrue(forces(told, program(("over", ONE, ZERO)), ()))
        self.assertIsNone(pin_tree(told, program(("over", ONE, ZERO)), ()))

    def test_many(self):
        found = {}
        cases = plain_cases(127, 45, 60) + [(TWICE, SAME)]
        for told, thing in cases:
            kinds = kinds_of(told, thing)
            for writing in list(kinds)[::7]:
                for many in range(len(writing) + 1):
                    for pins in list(itertools.combinations(writing, many))[:4]:
                        rows = {kind for row, kind in kinds.items() if set(pins) <= set(row)}
                        expected = len(rows) == 1 and ("ruined",) not in list(rows)[0][1]
                        tree = pin_tree(told, thing, pins)
                        self.assertEqual(tree is not None, expected)
                        word = None
                        if tree is not None:
                            word = tree[1][0]
                            self.assertEqual({tree[0]}, rows)
                            self.assertTrue(is_pin_tree(told, thing, pins, tree))
                            self.assertTrue(model_is_pin_tree(told, thing, pins, tree))
                        found[word] = found.get(word, 0) + 1
        self.assertGreaterEqual(set(found), {None, "all", "try"})

    def test_nearly_right(self):
        checked = {True: 0, False: 0}
        for told, thing in plain_cases(128, 60, 16, 3, asks=False):
            writing = all_writings(told, thing)[0]
            for pins in {(), writing[:1], writing}:
                tree = pin_tree(told, thing, pins)
                if tree is None or len(str(tree)) > 500:
                    continue
                for other in nearly(tree):
                    expected = model_is_pin_tree(told, thing, pins, other)
                    self.assertIs(is_pin_tree(told, thing, pins, other), expected, (told, thing, pins, other))
                    checked[expected] += 1
        self.assertGreater(min(checked.values()), 20)
        for other in STRANGE:
            self.assertIs(is_pin_tree(TWICE, THING, (), other), False)

    def test_trees_of_several_places(self):
        """Each part is met twice, so both have to be written, in a tree within a tree."""
        inner = then(put("x", ZERO), sum_of("x"))
        rows = [show(("minus", ("call", part), ("call", part))) for part in "pq"]
        thing = program(then(*rows), ("x",), (("p", inner), ("q", inner)))
        places = [("p", (2,)), ("q", (2,))]
        every = every_place(TWICE, thing)
        for many in range(3):
            for some in itertools.combinations(places, many):
                for options in itertools.product(BOTH, repeat=many):
                    for more in ((), (("body", (1, 1)), ("q", (2, 2)))):
                        wanted = {**dict(zip(some, options)), **{place: every[place][-1] for place in more}}
                        pins = tuple((place, wanted[place]) for place in every if place in wanted)
                        tree = pin_tree(TWICE, thing, pins)
                        self.assertTrue(model_is_pin_tree(TWICE, thing, pins, tree), pins)
                        self.assertTrue(is_pin_tree(TWICE, thing, pins, tree))
                        words = [str(tree).count("'try'"), tree[1][0]]
                        self.assertEqual(words, [[3, "try"], [1, "try"], [0, "all"]][many])

    def test_machines_of_trees_are_least(self):
        told = document(("run", BOTH))
        thing = program(show(ONE))
        machine, (word, ((choice, _, labels),)) = pin_tree(told, thing, ())
        self.assertTrue(is_pin_tree(told, thing, (), (machine, (word, ((choice, machine, labels),)))))
        more = ("machine", machine[1] + (("ends",),))
        anew = document(("anew", BOTH), ("anew", ("up",)), ("anew", (0,)))
        self.assertTrue(is_labelling(anew, thing, (), ((choice, more, labels),)))
        self.assertFalse(is_pin_tree(told, thing, (), (more, (word, ((choice, more, labels),)))))
        self.assertFalse(is_pin_tree(told, thing, (), (machine, (word, ((choice, more, labels),)))))

    def test_nearly_trees_that_try(self):
        told = document(("run", BOTH), fill=("run", (1,)))
        checked = {True: 0, False: 0}
        for thing, place in ((program(show(name("x"))), ("body", (1,))), (program(("plus", ONE, ZERO)), ("body", ()))):
            rows = every_place(told, thing)
            machine = pin_tree(told, thing, ())[0]
            behind = tuple(pin_tree(told, thing, ((place, option),))[1] for option in rows[place])
            tree = (machine, ("try", place, behind))
            more = [(machine, ("tried", place, behind)), (machine, ("try", ("body", (2, 2)), behind)), (machine, ("try", "body", behind)),
                    (machine, ("try", ("body", [1]), behind)), (machine, ("try", place, behind, ())), (machine, ("all", place, behind)),
                    (machine, ("try", place, behind * 2)), (machine, ("try", [place], behind)), (machine, ("try", ("q", ()), behind))]
            for pins in ((), ((place, rows[place][0]),)):
                for other in list(nearly(tree)) + more + [tree]:
                    expected = model_is_pin_tree(told, thing, pins, other)
                    self.assertIs(is_pin_tree(told, thing, pins, other), expected, (pins, other))
                    checked[expected] += 1
        self.assertGreater(min(checked.values()), 20)

    def test_trees_may_try_any_places(self):
        told = document(("run", BOTH), fill=("run", (0, 1)))
        thing = program(show(("plus", ONE, ("times", ZERO, name("x")))))
        machine, tree = pin_tree(told, thing, ())
        self.assertEqual(tree[0], "all")
        places = every_place(told, thing)

        def tried(pins, order):
            if not order:
                return pin_tree(told, thing, pins)[1]
            behind = []
            for option in places[order[0]]:
                wider = {**dict(pins), order[0]: option}
                behind.append(tried(tuple((one, wider[one]) for one in places if one in wider), order[1:]))
            return ("try", order[0], tuple(behind))
        for many in range(4):
            for order in itertools.permutations(places, many):
                whole = tried((), order)
                self.assertTrue(is_pin_tree(told, thing, (), (machine, whole)))
                if many:
                    turned = whole[:2] + (whole[2][::-1],)
                    self.assertEqual(is_pin_tree(told, thing, (), (machine, turned)), turned == whole)
                    self.assertFalse(is_pin_tree(told, thing, (), (machine, whole[:2] + (whole[2][:1],))))
                    self.assertFalse(is_pin_tree(told, thing, (), (machine, ("try", order[0], (whole, whole)))))
        more = ("machine", machine[1] + (("ends",),))
        self.assertFalse(is_pin_tree(told, thing, (), (more, tree)))
        self.assertFalse(is_pin_tree(told, thing, (), (("machine", (("shows", 0, 1), ("ends",))), tree)))
        one_option = document(fill=("run", (1,)))
        place = ("body", (1,))
        alone = program(show(name("x")))
        machine, tree = pin_tree(one_option, alone, ((place, 1),))
        self.assertTrue(is_pin_tree(one_option, alone, (), (machine, ("try", place, (tree,)))))


class LeastPinsTest(unittest.TestCase):
    def test_example(self):
        """Point [68]."""
        first, second = ("body", (1, 1)), ("body", (1, 2))
        pairs = tuple(((first, a), (second, b)) for a in BOTH for b in BOTH)
        self.assertEqual(least_pins(TWICE, THING), pairs)
        self.assertEqual(idle_places(document=TWICE, program=THING), (("body", (1,)), ("body", (1, 1, 2)), ("body", (1, 2, 2))))
        worths = []
        for pins in pairs:
            (row,) = {shown_with(TWICE, THING, writing, ()) for writing in writings(TWICE, THING) if set(pins) <= set(writing)}
            worths.append(row[0][0][1])
        self.assertEqual(worths, [0, 1, 3, 0])
        for writing in writings(TWICE, THING):
            self.assertEqual(holding(document=TWICE, program=THING, writing=writing), ((first, second),))
            self.assertEqual(shaking(document=TWICE, program=THING, writing=writing), ((first,), (second,)))
        self.assertTrue(is_portable(TWICE, THING))
        self.assertFalse(is_portable(TWICE, pinned(THING, ((first, "left"),))))
        anew = document(("anew", BOTH), width=("run", (2,)))
        self.assertTrue(forces(TWICE, SAME, ()))
        self.assertEqual({shown_with(TWICE, SAME, writing, ())[0] for writing in writings(TWICE, SAME)}, {(("shown", 0),)})
        self.assertFalse(is_portable(anew, SAME))

    def test_if_nothing_is_wanted(self):
        for told, thing in ((TWICE, SAME), (document(), program(name("x"))), (TWICE, program(ONE))):
            self.assertEqual(least_pins(document=told, program=thing), ((),))
            self.assertEqual(idle_places(told, thing), tuple(every_place(told, thing)))
            for writing in writings(told, thing):
                self.assertEqual((holding(told, thing, writing), shaking(told, thing, writing)), (((),), ()))

    def test_pins_are_compared_pin_by_pin(self):
        told = document(fill=("run", (0, 1, 3)), width=("run", (2,)))
        thing = program(show(("if", name("x"), name("y"), ZERO)), ("x", "y"))
        first, second = ("body", (1, 1)), ("body", (1, 2))
        rows = least_pins(told, thing)
        self.assertEqual(rows, (((first, 0),), ((second, 0),), ((first, 1), (second, 1)), ((first, 1), (second, 3)),
                                ((first, 3), (second, 1)), ((first, 3), (second, 3))))
        three = program(show(("times", name("x"), ("if", name("y"), ONE, name("z")))), ("x", "y", "z"))
        told = document(fill=("run", (0, 1)))
        place = [("body", (1, 1)), ("body", (1, 2, 1)), ("body", (1, 2, 3))]
        self.assertIn(((place[0], 0),), least_pins(told, three))
        self.assertEqual(least_pins(told, three)[1:], (((place[0], 1), (place[1], 1)), ((place[0], 1), (place[2], 1)),
                                                       ((place[1], 0), (place[2], 0))))

    def test_many(self):
        shapes = set()
        for told, thing in plain_cases(129, 50, 60, 5):
            kinds = kinds_of(told, thing)
            places = every_place(told, thing)
            rows = {pins for writing in kinds for many in range(len(writing) + 1) for pins in itertools.combinations(writing, many)}
            forcing = [pins for pins in rows if is_forced(kinds, pins)]
            least = [pins for pins in forcing if not any(set(one) < set(pins) for one in forcing)]

            def rank(pins):
                return (len(pins), [(list(places).index(place), places[place].index(option)) for place, option in pins])
            told_pins = least_pins(told, thing)
            self.assertEqual(told_pins, tuple(sorted(least, key=rank)))
            for pins in rows:
                self.assertEqual(pins in forcing, any(set(one) <= set(pins) for one in told_pins))
            idle = idle_places(told, thing)
            self.assertEqual(idle, tuple(place for place in places if self.is_idle(kinds, place)))
            self.assertEqual([place for place in places if place not in idle],
                             [place for place in places if any(place in dict(pins) for pins in told_pins)])
            for pins in forcing:
                self.assertIn(tuple(pair for pair in pins if pair[0] not in idle), forcing)
            self.written_in_any_way(kinds, places, idle)
            wide = told[:1] + tuple(("place", pair[1]) for pair in told[1:4]) + told[4:]
            spots = [place for _, place in hangs_on(wide, thing)]
            self.assertEqual(sorted(spots), sorted(place for place in places if place not in idle))
            shapes.add((len(told_pins), len(told_pins[-1])))
        self.assertGreater(len(shapes), 5)

    def is_idle(self, kinds, place):
        rest = {}
        for writing, kind in kinds.items():
            rest.setdefault(tuple(pair for pair in writing if pair[0] != place), set()).add(kind)
        return all(len(row) == 1 for row in rest.values())

    def written_in_any_way(self, kinds, places, idle):
        """HEART of [64]: the places that are not idle are the one least lot that forces however it is written."""
        def always(lot):
            return all(is_forced(kinds, tuple(pair for pair in writing if pair[0] in lot)) for writing in kinds)
        wanted = [place for place in places if place not in idle]
        for many in range(len(places) + 1):
            for lot in itertools.combinations(places, many):
                self.assertEqual(always(lot), set(wanted) <= set(lot))

    def test_mirror(self):
        """HEART of [65]."""
        shapes = set()
        for told, thing in plain_cases(130, 50, 60, 5):
            kinds = kinds_of(told, thing)
            places = list(every_place(told, thing))
            lots = [lot for many in range(len(places) + 1) for lot in itertools.combinations(places, many)]
            for writing in list(kinds)[::6]:
                holds, shakes = holding(told, thing, writing), shaking(told, thing, writing)
                forced = [lot for lot in lots if is_forced(kinds, tuple(pair for pair in writing if pair[0] in lot))]
                shaken = [lot for lot in lots if self.shakes(kinds, writing, lot)]
                self.assertEqual(holds, tuple(lot for lot in forced if not any(set(one) < set(lot) for one in forced)))
                self.assertEqual(shakes, tuple(lot for lot in shaken if not any(set(one) < set(lot) for one in shaken)))
                for one, other in ((holds, shakes), (shakes, holds)):
                    hit = [lot for lot in lots if all(set(lot) & set(each) for each in other)]
                    self.assertEqual(one, tuple(lot for lot in hit if not any(set(less) < set(lot) for less in hit)))
                written = [tuple(pair for pair in writing if pair[0] in lot) for lot in holds]
                self.assertEqual(written, [pins for pins in least_pins(told, thing) if set(pins) <= set(writing)])
                shapes.add((len(holds), len(shakes)))
        self.assertGreater(len(shapes), 3)

    def shakes(self, kinds, writing, lot):
        for other, kind in kinds.items():
            if kind != kinds[writing] and tuple(a[0] for a, b in zip(writing, other) if a != b) == lot:
                return True
        return False


class ScopeTest(unittest.TestCase):
    """Point [66]: pins and scopes."""

    def by_scopes(self, told, scope):
        return told[:1] + tuple((scope, pair[1]) for pair in told[1:4]) + told[4:]

    def test_chain(self):
        seen = set()
        maker = Maker(131)
        for told, thing in plain_cases(131, 60, 60, 4) + [(TWICE, SAME), (TWICE, THING)]:
            kinds = kinds_of(told, thing)
            some = [tuple(pair for pair in writing if maker.random.random() < 0.5) for writing in list(kinds)[::9]]
            for pins in [()] + some:
                part = pinned(thing, pins)
                rows = {kind for row, kind in kinds.items() if set(pins) <= set(row)}
                good = len(rows) == 1 and not any(("ruined",) in kind[1] for kind in rows)
                anew = is_portable(self.by_scopes(told, "anew"), part)
                others = [is_portable(self.by_scopes(told, scope), part) for scope in ("place", "part", "run", "program")]
                self.assertLessEqual(anew, good)
                self.assertEqual(others[0], good)
                for one in others:
                    self.assertLessEqual(good, one)
                seen.add((anew, good, others[2]))
        self.assertEqual(seen, {(True,) * 3, (False,) * 3, (False, True, True), (False, False, True)})

    def test_robust(self):
        checked = [0, 0]
        for told, thing in plain_cases(132, 40, 40, 4):
            kinds = kinds_of(told, thing)
            run_wide = self.by_scopes(told, "run")
            rows = {pins for writing in kinds for many in range(len(writing) + 1) for pins in itertools.combinations(writing, many)}
            steady = {pins: is_portable(run_wide, pinned(thing, pins)) for pins in rows}
            for pins in list(rows)[:10]:
                left = {kind for row, kind in kinds.items() if set(pins) <= set(row)}
                good = len(left) == 1 and not any(("ruined",) in kind[1] for kind in left)
                self.assertEqual(good, all(steady[more] for more in rows if set(pins) <= set(more)))
                checked[good] += 1
        self.assertGreater(min(checked), 20)

    def test_pins_can_break_what_held(self):
        first = ("body", (1, 1))
        self.assertTrue(is_portable(TWICE, THING))
        self.assertFalse(is_portable(TWICE, pinned(THING, ((first, "left"),))))
        for scope in ("anew", "place"):
            wide = self.by_scopes(TWICE, scope)
            held = ((("body", (1, 1)), "left"), (("body", (1, 2)), "right"))
            self.assertTrue(is_portable(wide, pinned(THING, held)))
            self.assertTrue(is_portable(wide, pinned(THING, ((("body", (1,)), "left"),) + held)))


if __name__ == "__main__":
    unittest.main()
