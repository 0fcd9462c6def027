"""Points [50], [52], [53], [57]: steady programs, with labellings, troubles and the least inputs."""

import itertools
import unittest

from anymaker.choices import choices, is_choice
from anymaker.labellings import is_labelling, labelling
from anymaker.machines import is_machine, least_machine, machine_of
from anymaker.makers import is_maker
from anymaker.steadies import first_unlike, is_portable, is_repeatable, is_steady
from anymaker.troubles import is_trouble, trouble
from tests import model
from tests.firstly import all_shown, settled, unlike_with
from tests.nearly import STRANGE, nearly
from tests.samples import ASK, BIT, document, few_standings, name, number, program, put, show, small_cases, telling_cases, then
from tests.test_comings import model_is_standing
from tests.test_goals import KINDS
from tests.test_ways import model_used

ONE = number(1)
ZERO = number(0)
LEFT = ("run", ("left", "right"))


def kepts_of(document):
    """All tuples of kinds that may be kept."""
    kinds = [kind for kind, pair in zip(KINDS, document[1:5]) if pair[0] != "anew"]
    return [kept for many in range(len(kinds) + 1) for kept in itertools.combinations(kinds, many)]


def items(choice, kept):
    return tuple(item for kind, item in zip(KINDS, choice) if kind in kept)


def flat(choice):
    found = []
    for item in choice:
        found += list(item) if isinstance(item, tuple) else [] if item is None else [item]
    return found


def model_is_labelling(document, program, kept, thing):
    rows = choices(document, program)
    if type(thing) is not tuple or len(thing) != len(rows):
        return False
    machines = {}
    for choice, triple in zip(rows, thing):
        if type(triple) is not tuple or len(triple) != 3 or not is_choice(document, program, triple[0]):
            return False
        if triple[0] != choice or not is_machine(triple[1]) or type(triple[2]) is not tuple:
            return False
        if machines.setdefault(items(choice, kept), triple[1]) != triple[1]:
            return False
        if not fits_labels(document, program, choice, triple[1][1], triple[2]):
            return False
    return True


def fits_labels(document, program, choice, rows, labels):
    table = {}
    for label in labels:
        if type(label) is not tuple or len(label) != 3 or type(label[1]) is not int or type(label[2]) is not int:
            return False
        if not 0 <= label[1] < len(rows) or label[2] < 0 or not model_is_standing(document, program, choice, label[0]):
            return False
        if label[0] in table:
            return False
        table[label[0]] = label[1:]
    if table.get(model.first(program), (None,))[0] != 0:
        return False
    for standing, (at, rank) in table.items():
        move = model.moves(document, program, choice, standing)
        row = rows[at]
        if model.ruinous(move):
            return False
        if move[0] == "ends" and row != ("ends",):
            return False
        wanted = []
        if move[0] == "asks":
            if row[0] != "asks":
                return False
            wanted = list(zip(move[1], row[1]))
        elif model.eventful(move):
            if row[0] != "shows" or row[1] != move[1][1]:
                return False
            wanted = [(move[2], row[2])]
        if any(table.get(one, (None,))[0] != next_ for one, next_ in wanted):
            return False
        for one in model.silent(move):
            if one not in table or table[one][0] != at or row != ("never",) and table[one][1] >= rank:
                return False
    return True


def model_is_trouble(document, program, kept, thing):
    if type(thing) is not tuple or not thing or type(thing[0]) is not str:
        return False
    if (thing[0], len(thing)) not in (("ruin", 3), ("spot", 4), ("request", 5), ("ring", 3)):
        return False
    if thing[0] != "ring":
        inputs = thing[-1]
        if type(inputs) not in (list, tuple) or not all(type(one) is int and 0 <= one <= 7 for one in inputs):
            return False
    if thing[0] == "ruin":
        return is_maker(document, program, thing[1]) and model_used(document, program, thing[1], thing[2], "ruined") is not None
    if not is_choice(document, program, thing[1]):
        return False
    first = model.first(program)
    if thing[0] == "spot":
        if not is_choice(document, program, thing[2]) or items(thing[1], kept) != items(thing[2], kept):
            return False
        if sum(one != other for one, other in zip(flat(thing[1]), flat(thing[2]))) != 1:
            return False
        return unlike_with(document, program, (thing[1], first), (thing[2], first), thing[3])
    coming = model.standings(document, program, thing[1])
    if thing[0] == "request":
        if not model_is_standing(document, program, thing[1], thing[2]) or thing[2] not in coming:
            return False
        move = model.moves(document, program, thing[1], thing[2])
        if move[0] != "chooses":
            return False
        let = document[1 + KINDS.index(move[1])][1]
        if type(thing[3]) not in (int, str) or thing[3] not in let:
            return False
        other = move[3][let.index(thing[3])]
        return unlike_with(document, program, (thing[1], move[3][0]), (thing[1], other), thing[4])
    ring = thing[2]
    if type(ring) is not tuple or not ring or any(ring.count(one) > 1 for one in ring):
        return False
    if not all(model_is_standing(document, program, thing[1], one) and one in coming for one in ring):
        return False
    for one, other in zip(ring, ring[1:] + ring[:1]):
        if other not in model.silent(model.moves(document, program, thing[1], one)):
            return False
    return any(settled(document, program, thing[1], one) != ("never",) for one in ring)


def splits(document, program, kept, inputs):
    """Whether makers that are kept alike show unlike things with these inputs, or one is ruined."""
    groups = {}
    for choice in choices(document, program):
        groups.setdefault(items(choice, kept), []).append(choice)
    for rows in groups.values():
        told = all_shown(document, program, rows, inputs, 5)
        if len(told) > 1 or "ruined" in [end for _, end in told]:
            return True
    return False


class SteadyTest(unittest.TestCase):
    def check(self, told, thing, kept):
        """Whether the program is steady; one of a labelling and a trouble shows it, never both."""
        steady = is_steady(document=told, program=thing, kept=kept)
        labels, fault = labelling(told, thing, kept), trouble(told, thing, kept)
        inputs = first_unlike(told, thing, kept)
        self.assertEqual([labels is not None, fault is None, inputs is None], [steady] * 3, (told, thing, kept))
        if steady:
            self.assertTrue(is_labelling(told, thing, kept, labels), (told, thing, kept))
            self.assertTrue(model_is_labelling(told, thing, kept, labels), (told, thing, kept))
        else:
            self.assertTrue(is_trouble(told, thing, kept, fault), (told, thing, kept, fault))
            self.assertTrue(model_is_trouble(told, thing, kept, fault), (told, thing, kept, fault))
            self.assertIsInstance(inputs, tuple)
        return steady

    def test_the_three_words(self):
        """Steady with nothing kept, with what is made, with all."""
        thing = program(show(BIT), ("y",))
        for scope, portable, repeatable in (("ever", False, True), ("program", False, True), ("part", False, True),
                                            ("place", False, True), ("run", False, False), ("anew", False, False)):
            told = document(order=(scope, ("left", "right")))
            self.assertIs(is_portable(document=told, program=thing), portable)
            self.assertIs(is_repeatable(document=told, program=thing), repeatable)
            if scope != "anew":
                self.assertTrue(self.check(told, thing, ("order",)))
            self.assertFalse(self.check(told, thing, ()))
        self.assertTrue(is_portable(document(("anew", ("left", "right"))), program(show(ONE))))

    def test_just_one_or_two_of_them(self):
        wide = document(("run", ("left", "right")), width=("ever", (1, 2)))
        self.assertEqual((is_portable(wide, program(show(number(2)))), is_repeatable(wide, program(show(number(2))))), (False, True))
        thing = program(show(("plus", number(2), BIT)), ("y",))
        for kept, steady in (((), False), (("order",), False), (("width",), False), (("order", "width"), True)):
            self.assertEqual(self.check(wide, thing, kept), steady)

    def test_width_is_a_choice_too(self):
        for width in ((1, 2), (1, 2, 3)):
            told = document(width=("run", width))
            self.assertFalse(self.check(told, program(show(number(2))), ()))
            self.assertTrue(self.check(told, program(show(number(2))), ("width",)))
            self.assertTrue(self.check(told, program(show(ONE)), ()))

    def test_ruins_are_never_steady(self):
        for told in (document(), document(fill=("run", ("none",)))):
            for kept in kepts_of(told):
                self.assertFalse(self.check(told, program(then(show(ONE), ("over", ONE, ("name", "x", 0)))), kept))
                self.assertEqual(trouble(told, program(("over", ONE, ZERO)), kept)[0], "ruin")
        self.assertFalse(self.check(document(fill=("anew", (0, "none"))), program(name("x")), ()))
        self.assertFalse(self.check(document(fill=("anew", ("none", ))), program(name("x")), ()))

    def test_silent_rounds(self):
        """Behind each request FIRST shows the same, but who goes round and round never ends."""
        told = document(fill=("anew", (0, 1)))
        for body in (("while", name("x"), ZERO), then(show(ONE), ("while", ("same", name("x"), ONE), ONE)),
                     then(ASK, ("while", name("x"), ASK if False else ONE))):
            self.assertFalse(self.check(told, program(body), ()))
            self.assertEqual(trouble(told, program(body), ())[0], "ring")
        self.assertEqual(first_unlike(told, program(then(ASK, ("while", name("x"), ONE))), ()), (0,))
        self.assertTrue(self.check(told, program(("while", ONE, name("x"))), ()))
        shown = program(("while", name("x"), show(ONE)))
        self.assertEqual(trouble(told, shown, ())[0], "request")
        asked = program(("while", name("x"), ASK))
        self.assertEqual(trouble(told, asked, ())[0], "request")

    def test_rounds_with_events_are_no_rings(self):
        told = document(("anew", ("left", "right")), fill=("anew", (0, 1)))
        for body in (("while", ONE, show(("plus", ONE, ONE))), ("while", ("plus", ONE, ZERO), ASK),
                     ("while", ONE, then(show(("minus", name("x"), name("x", )), ), ASK))):
            steady = self.check(told, program(body), ())
            self.assertEqual(steady, "minus" not in str(body))

    def test_makers_of_any_memory(self):
        """With one order at a place both times it shows 0; who remembers may show 1."""
        thing = program(show(("minus", ("call", "p"), ("call", "p"))), ("y",), (("p", BIT),))
        for scope, steady in (("place", True), ("part", True), ("run", True), ("anew", False)):
            self.assertEqual(self.check(document(order=(scope, ("left", "right"))), thing, ()), steady)

    def test_ladder(self):
        """Facts of [16] and [50]: what is steady by a wider scope is so by a narrower one."""
        seen = set()
        for told, thing in small_cases(91, 40, 40) + telling_cases(116, 60, 60, widths=(1,)):
            rows = []
            for scope in ("anew", "place", "part", "run", "program", "ever"):
                wide = told[:1] + tuple((scope, pair[1]) for pair in told[1:4]) + told[4:]
                if not few_standings(wide, thing, 300):
                    break
                rows.append(is_portable(wide, thing))
            if len(rows) < 6:
                continue
            self.assertEqual(rows, sorted(rows))
            self.assertEqual(len(set(rows[3:])), 1)
            seen.add(tuple(rows))
        self.assertGreater(len(seen), 1)
        same = [program(show(("same", BIT, BIT)), ("y",)),
                program(show(("same", ("call", "p"), ("call", "p"))), ("y",), (("p", BIT),)),
                program(show(("same", ("call", "p"), ("call", "q"))), ("y",), (("p", BIT), ("q", BIT)))]
        told = [document(order=(scope, ("left", "right"))) for scope in ("anew", "place", "part", "run")]
        self.assertEqual([[is_portable(one, thing) for one in told] for thing in same],
                         [[False, False, True, True], [False, True, True, True], [False, False, False, True]])

    def test_many(self):
        found, kinds = [0, 0], set()
        for told, thing in small_cases(92, 80, 50) + telling_cases(112, 60, 60):
            rows = {}
            for kept in kepts_of(told):
                rows[kept] = self.check(told, thing, kept)
                found[rows[kept]] += 1
                if not rows[kept]:
                    kinds.add(trouble(told, thing, kept)[0])
            for one, other in itertools.product(rows, repeat=2):
                if set(one) <= set(other):
                    self.assertLessEqual(rows[one], rows[other])
            self.assertEqual(is_portable(told, thing), rows[()])
            made = tuple(kind for kind, pair in zip(KINDS, told[1:5]) if pair[0] not in ("run", "anew"))
            self.assertEqual(is_repeatable(told, thing), rows[made])
        self.assertGreater(min(found), 100)
        self.assertGreaterEqual(kinds, {"ruin", "spot"})

    def test_many_anew(self):
        kinds = {}
        cases = telling_cases(113, 150, 60, ("anew", "anew", "run"))
        for told, thing in small_cases(93, 60, 50, ("anew", "anew", "run")) + cases:
            if told[3][1][-1] == "none":
                continue
            if not self.check(told, thing, ()):
                kind = trouble(told, thing, ())[0]
                kinds[kind] = kinds.get(kind, 0) + 1
        self.assertGreaterEqual(set(kinds), {"ruin", "spot", "request"})

    def test_fewer_options_stay_steady(self):
        for told, thing in small_cases(94, 30, 30, depth=2) + telling_cases(115, 40, 60):
            if is_portable(told, thing):
                for at in (1, 2, 3, 4):
                    for option in told[at][1]:
                        less = told[:at] + ((told[at][0], (option,)),) + told[at + 1:]
                        self.assertTrue(is_portable(less, thing))

    def test_one_machine_for_two_portable_programs(self):
        """HEART of [52]."""
        rows = []
        for told, thing in small_cases(95, 150, 30, depth=2, names=("x",)):
            if is_portable(told, thing):
                rows.append(machine_of(told, thing, choices(told, thing)[0]))
                self.assertEqual({machine_of(told, thing, choice) for choice in choices(told, thing)}, {rows[-1]})
        self.assertLess(len(set(rows)), len(rows))


class LeastInputsTest(unittest.TestCase):
    def test_example(self):
        """Point [57], with the program of [36] that shows."""
        thing = program(show(("plus", put("x", ONE), name("x"))))
        for scope in ("run", "anew"):
            told = document(order=(scope, ("left", "right")), width=("run", (2,)))
            self.assertEqual(first_unlike(document=told, program=thing, kept=()), ())
        self.assertIsNone(first_unlike(document(order=("run", ("left", "right"))), program(show(ONE)), ()))

    def test_only_behind_some_inputs(self):
        told = document(("anew", ("left", "right")))
        for at in range(4):
            body = then(("if", ("same", ASK, number(at)), show(BIT), ONE))
            wide = told[:4] + (("run", (2,)), "ahead")
            self.assertEqual(first_unlike(wide, program(body, ("y",)), ()), (at,))
        body = then(put("x", ASK), ("if", ("less", name("x"), ASK), show(BIT), ONE))
        self.assertEqual(first_unlike(told, program(body, ("x", "y")), ()), (0, 1))
        body = ("while", ("same", ASK, ZERO), ZERO)
        ruined = program(then(body, ("over", ONE, ("minus", ASK, ONE))), ("x",))
        self.assertEqual(first_unlike(told, ruined, ()), (1, 1))

    def test_shown_for_ever(self):
        told = document(("anew", ("left", "right")))
        self.assertIsNone(first_unlike(told, program(("while", ONE, show(ONE))), ()))
        self.assertEqual(first_unlike(told, program(("while", ONE, show(BIT)), ("y",)), ()), ())
        late = then(put("x", ZERO), ("while", ONE, then(show(ONE), ("if", name("x"), show(BIT), put("x", ONE)))))
        self.assertEqual(first_unlike(told, program(late, ("x", "y")), ()), ())

    def test_the_least_of_all_kept(self):
        told = document(("run", ("left", "right")), ("run", ("up", "down")))
        thing = program(("if", ASK, show(("each", "y", 0, 1, ONE)), then(ASK, show(BIT))), ("y",))
        self.assertEqual(first_unlike(told, thing, ()), (0, 0))
        self.assertEqual(first_unlike(told, thing, ("order",)), None)
        self.assertEqual(first_unlike(told, thing, ("walk",)), (0, 0))

    def test_many(self):
        some = 0
        rows = [()] + [row for many in (1, 2) for row in itertools.product(range(8), repeat=many)]
        for told, inner in small_cases(96, 70, 20, depth=2):
            body = ("if", ("less", put("x", ASK), ONE), inner[3], ("if", ASK, ONE, inner[3]))
            thing = inner[:3] + (inner[3] if some % 4 == 3 else body,)
            if not few_standings(told, thing, 60):
                continue
            for kept in kepts_of(told)[::3]:
                inputs = first_unlike(told, thing, kept)
                if inputs is not None:
                    self.assertTrue(splits(told, thing, kept, inputs))
                    some += len(inputs) > 0
                lesser = rows if inputs is None else [row for row in rows if (len(row), row) < (len(inputs), inputs)]
                for row in lesser[:12] + lesser[12::7]:
                    self.assertFalse(splits(told, thing, kept, row), (told, thing, kept, row))
        self.assertGreater(some, 5)


class LabellingTest(unittest.TestCase):
    def test_nearly_right(self):
        checked = {True: 0, False: 0}
        for told, thing in small_cases(97, 60, 12, depth=2, names=("x",)):
            for kept in kepts_of(told)[:2]:
                found = labelling(told, thing, kept)
                if found is None or len(str(found)) > 420:
                    continue
                for other in list(nearly(found)) + [tuple(triple[:2] + (triple[2][::-1],) for triple in found)]:
                    expected = model_is_labelling(told, thing, kept, other)
                    self.assertIs(is_labelling(told, thing, kept, other), expected, (told, thing, kept, other))
                    checked[expected] += 1
        self.assertGreater(min(checked.values()), 30)

    def test_other_machines_and_ranks(self):
        """A machine need not be least, ranks may be higher, standings need not come."""
        thing = program(then(show(ONE), ("while", ONE, ZERO)))
        ((choice, machine, labels),) = labelling(document(), thing, ())
        self.assertEqual(machine, ("machine", (("shows", 1, 1), ("never",))))
        self.assertTrue(is_labelling(document(), thing, (), ((choice, machine, labels),)))
        high = tuple(label[:2] + (label[2] + 7,) for label in labels)
        self.assertTrue(is_labelling(document(), thing, (), ((choice, machine, high),)))
        wide = ("machine", machine[1] + (("ends",),))
        more = labels + ((((number(5)), (0,)), 2, 0),)
        self.assertTrue(is_labelling(document(), thing, (), ((choice, wide, more),)))
        self.assertFalse(is_labelling(document(), thing, (), ((choice, machine, more),)))
        self.assertFalse(is_labelling(document(), thing, (), ((choice, wide, labels + (((ASK, (0,)), 2, 0),)),)))
        ruined = (("over", ONE, ZERO, "left"), (0,))
        for row in (("ruined",), ("never",), ("ends",)):
            broken = ("machine", machine[1] + (row,))
            self.assertFalse(is_labelling(document(), thing, (), ((choice, broken, labels + ((ruined, 2, 0),)),)))
        flat_ranks = tuple(label[:2] + (0,) for label in labels)
        self.assertTrue(is_labelling(document(), thing, (), ((choice, machine, flat_ranks),)))
        longer = program(then(ZERO, show(ONE)))
        ((choice, machine, labels),) = labelling(document(), longer, ())
        flat_ranks = tuple(label[:2] + (0,) for label in labels)
        self.assertFalse(is_labelling(document(), longer, (), ((choice, machine, flat_ranks),)))

    def test_machines_of_choices_that_are_kept_alike_are_equal(self):
        told = document(order=LEFT, width=("run", (2,)))
        thing = program(show(BIT), ("y",))
        kept = labelling(told, thing, ("order",))
        self.assertTrue(is_labelling(told, thing, ("order",), kept))
        self.assertTrue(is_labelling(told, thing, ("order", "walk"), kept))
        for other in ((), ("walk",), ("width",)):
            self.assertFalse(is_labelling(told, thing, other, kept))
        same = labelling(told, program(ONE), ())
        moved = ("machine", (("ends",), ("ends",)))
        unlike = (same[0], (same[1][0], moved, same[1][2]))
        self.assertFalse(is_labelling(told, program(ONE), (), unlike))
        self.assertTrue(is_labelling(told, program(ONE), ("order",), unlike))
        self.assertNotEqual(least_machine(moved), moved)

    def test_requests_need_all_that_is_behind(self):
        told = document(order=("anew", ("left", "right")))
        thing = program(("plus", ONE, ONE))
        ((choice, machine, labels),) = labelling(told, thing, ())
        self.assertEqual(len(labels), 4)
        for at in range(4):
            self.assertFalse(is_labelling(told, thing, (), ((choice, machine, labels[:at] + labels[at + 1:]),)))
        swallowing = document(fill=("anew", (0, "none")))
        thing = program(name("x"))
        choice = choices(swallowing, thing)[0]
        for row in (("ends",), ("never",)):
            labels = ((model.first(thing), 0, 1), ((number(0), (None,)), 0, 0))
            self.assertFalse(is_labelling(swallowing, thing, (), ((choice, ("machine", (row,)), labels),)))

    def test_strange_things(self):
        for thing in STRANGE:
            self.assertIs(is_labelling(document(), program(ONE), (), thing), False)
            self.assertIs(is_trouble(document(), program(ONE), (), thing), False)


class TroubleTest(unittest.TestCase):
    def test_nearly_right(self):
        checked = {}
        cases = small_cases(98, 60, 14, depth=2, names=("x",)) + small_cases(99, 60, 14, ("anew", "run"), depth=2, names=("x",))
        told = document(fill=("anew", (0, 1)))
        cases += [(told, program(("while", name("x"), ZERO))), (told, program(show(name("x"))))]
        for told, thing in cases:
            for kept in kepts_of(told)[:2]:
                found = trouble(told, thing, kept)
                if found is None or len(str(found)) > 600:
                    continue
                for other in list(nearly(found)) + [found[:-1] + (list(found[-1]),)]:
                    expected = model_is_trouble(told, thing, kept, other)
                    self.assertIs(is_trouble(told, thing, kept, other), expected, (told, thing, kept, other))
                    checked[(found[0], expected)] = checked.get((found[0], expected), 0) + 1
        for word in ("ruin", "spot", "request", "ring"):
            self.assertGreater(min(checked.get((word, fine), 0) for fine in (True, False)), 0, (word, checked))

    def test_spots(self):
        told = document(order=("part", ("left", "right")), width=("run", (2,)))
        thing = program(show(("plus", ("call", "p"), ("call", "q"))), ("y",), (("p", BIT), ("q", BIT)))
        rows = {order: (order, "up", 0, 2) for order in itertools.product(("left", "right"), repeat=3)}
        base = ("left", "left", "left")
        for order, fine in ((("right", "left", "left"), True), (("left", "right", "left"), True),
                            (("left", "left", "right"), False), (("right", "right", "left"), False), (base, False)):
            self.assertIs(is_trouble(told, thing, (), ("spot", rows[base], rows[order], ())), fine)
            self.assertIs(is_trouble(told, thing, ("walk",), ("spot", rows[order], rows[base], [1])), fine)
            self.assertIs(is_trouble(told, thing, ("order",), ("spot", rows[base], rows[order], ())), False)

    def test_inputs_have_to_tell(self):
        told = document(order=LEFT, width=("run", (2,)))
        thing = program(("if", ASK, show(BIT), ONE), ("y",))
        one, other = choices(told, thing)
        for inputs, fine in (((), False), ((0,), False), ((1,), True), ((2, 7), True), ([3], True), ((4,), False), ((8,), False)):
            self.assertIs(is_trouble(told, thing, (), ("spot", one, other, inputs)), fine)
        for bad in ((1, 8), (1, True), (1, "1"), (1, None), None, 1, "1", {1: 1}, [1, 8]):
            self.assertIs(is_trouble(told, thing, (), ("spot", one, other, bad)), False)
        ruined = program(("over", ONE, ASK), ("y",))
        word, maker, inputs = trouble(told, ruined, ())
        for bad, fine in ((tuple(inputs), True), (list(inputs) + [7], True), (tuple(inputs) + (8,), False), (None, False),
                          (list(inputs) + [True], False), ("", False), ({}, False)):
            self.assertIs(is_trouble(told, ruined, (), (word, maker, bad)), fine)
        told = document(order=("anew", ("left", "right")), width=("run", (2,)))
        found = trouble(told, thing, ())
        self.assertEqual((found[0], found[3], found[4]), ("request", "right", ()))
        later = program(then(BIT, ("if", ASK, show(name("y")), ONE)), ("y",))
        found = trouble(told, later, ())
        self.assertEqual((found[0], found[4]), ("request", (1,)))
        self.assertIs(is_trouble(told, later, (), found[:4] + ((0,),)), False)

    def test_an_answer_that_ruins_beside_the_first_one(self):
        told = document(fill=("anew", (0, "none")))
        thing = program(show(name("x")))
        choice = choices(told, thing)[0]
        standing = model.first(thing)
        self.assertTrue(is_trouble(told, thing, (), ("request", choice, standing, "none", ())))
        self.assertFalse(is_trouble(told, thing, (), ("request", choice, standing, 0, ())))
        ruined = program(then(name("x"), ("over", ONE, ZERO, "left")))
        told = document(fill=("anew", (0, 1, "none")))
        for option in (0, 1, "none"):
            fine = is_trouble(told, ruined, (), ("request", choice, model.first(ruined), option, ()))
            self.assertIs(fine, False)

    def test_standings_have_to_come(self):
        told = document(fill=("anew", (0, 1)))
        thing = program(show(name("x")))
        choice = choices(told, thing)[0]
        standing = (("name", "x", ("body", (1,))), (None,))
        self.assertFalse(is_trouble(told, thing, (), ("request", choice, standing, 1, ())))
        self.assertTrue(is_trouble(told, thing, (), ("request", choice, model.first(thing), 1, ())))
        for other in model.standings(told, thing, choice)[1:]:
            for option in (0, 1):
                self.assertFalse(is_trouble(told, thing, (), ("request", choice, other, option, ())))
        for bad in ((8,), (True,), (-1,), ("1",), (None,), None, 1, "1", {1: 1}, [8], (0, (1,))):
            self.assertFalse(is_trouble(told, thing, (), ("request", choice, model.first(thing), 1, bad)))
        ring = trouble(told, program(("while", name("x"), ZERO)), ())[2]
        looped = program(then(show(name("x")), ("while", name("x"), ZERO)))
        self.assertFalse(is_trouble(told, looped, (), ("ring", choice, ring[:1] + ring[2:])))
        for at in range(len(ring)):
            turned = ring[at:] + ring[:at]
            self.assertTrue(is_trouble(told, program(("while", name("x"), ZERO)), (), ("ring", choice, turned)))
            self.assertFalse(is_trouble(told, program(("while", name("x"), ZERO)), (), ("ring", choice, turned[::-1])))
        self.assertFalse(is_trouble(told, program(("while", ONE, ZERO)), (), ("ring", choice, ())))

    def test_rounds_that_first_goes_are_no_trouble(self):
        told = document(fill=("anew", (1, 0)[::-1]))
        thing = program(("while", ONE, ZERO))
        choice = choices(told, thing)[0]
        rows = model.standings(told, thing, choice)
        ring = tuple(rows[at] for at in range(len(rows)))
        self.assertFalse(is_trouble(told, thing, (), ("ring", choice, ring)))
        self.assertIsNone(trouble(told, thing, ()))


if __name__ == "__main__":
    unittest.main()
