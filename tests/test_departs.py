"""Points [45], [46], [47]: departures from a told maker, floors below them, and the choices that remain."""

import itertools
import unittest

from anymaker.choices import choices
from anymaker.comings import comes
from anymaker.departs import departed, departures, floor, is_floor
from anymaker.errors import BadShowing, OtherChoice
from anymaker.makers import is_maker, maker_of
from anymaker.remains import remaining
from anymaker.runs import requests, run
from tests import model
from tests.nearly import STRANGE, nearly
from tests.samples import ASK, BIT, Maker, document, name, number, program, put, show, small_cases, then
from tests.test_comings import model_is_standing
from tests.test_goals import KINDS

ONE = number(1)
ENDS = ("more", "ends", "waits", "ruined")


def row_of(document, maker, state, kind):
    kinds = [kind for kind, pair in zip(KINDS, document[1:5]) if pair[0] == "anew"]
    return maker[2][state][kinds.index(kind)]


def steps(document, program, maker, showing, item):
    """The steps from (state, at, standing): pairs of what is behind and 1 for a departure."""
    state, at, standing = item
    move = model.moves(document, program, maker[1], standing)
    if move[0] == "chooses":
        told, after = row_of(document, maker, state, move[1])
        let = document[1 + KINDS.index(move[1])][1]
        return [((after, at, one), int(option != told)) for option, one in zip(let, move[3]) if one is not None]
    found = [((state, at, one), 0) for one in model.silent(move)]
    if at < len(showing[0]):
        found += [((state, at + 1, one), 0) for event, one in model.eventful(move) if event == showing[0][at]]
    return found


def end_cost(document, program, maker, showing, item):
    """None, or how many departures the end is."""
    state, at, standing = item
    move = model.moves(document, program, maker[1], standing)
    ways = {"more": bool(model.eventful(move)), "ends": move[0] == "ends", "waits": move[0] == "asks",
            "ruined": model.ruinous(move)}
    if at < len(showing[0]) or not ways[showing[1]]:
        return None
    if showing[1] == "ruined" and move[0] == "chooses":
        return int(row_of(document, maker, state, move[1])[0] != "none")
    return 0


def fewest(document, program, maker, showing):
    """By rounds over all items until nothing gets less."""
    found = {(0, 0, model.first(program)): 0}
    pending = list(found)
    while pending:
        item = pending.pop()
        for reached, cost in steps(document, program, maker, showing, item):
            if reached not in found or found[item] + cost < found[reached]:
                found[reached] = found[item] + cost
                pending.append(reached)
    costs = [(item, end_cost(document, program, maker, showing, item)) for item in found]
    return min([found[item] + cost for item, cost in costs if cost is not None], default=None)


def model_is_floor(document, program, maker, showing, many, thing):
    if type(thing) is not tuple:
        return False
    table = {}
    for item in thing:
        if type(item) is not tuple or len(item) != 4 or not all(type(item[at]) is int for at in (0, 1, 3)):
            return False
        if not 0 <= item[0] < len(maker[2]) or not 0 <= item[1] <= len(showing[0]) or item[3] < 0:
            return False
        if not model_is_standing(document, program, maker[1], item[2]) or item[:3] in table:
            return False
        table[item[:3]] = item[3]
    if table.get((0, 0, model.first(program))) != 0:
        return False
    for item, told in table.items():
        for reached, cost in steps(document, program, maker, showing, item):
            if reached not in table or table[reached] > told + cost:
                return False
        cost = end_cost(document, program, maker, showing, item)
        if cost is not None and told < many - cost:
            return False
    return True


class DepartedTest(unittest.TestCase):
    told = document(order=("anew", ("left", "right")), fill=("anew", (0, "none")), width=("run", (2,)))
    thing = program(show(("plus", put("x", ONE), name("x"))))
    choice = (None, "up", None, 2)

    def maker(self, *options):
        return maker_of(self.told, self.thing, self.choice, options)

    def test_ordinary(self):
        plain = ("maker", self.choice, ((("left", 0), (0, 0)),))
        for options, many in ((["left"], 0), (["right"], 1), (["right", 0], 1), (["right", "none"], 2)):
            self.assertEqual(departed(self.told, self.thing, plain, self.maker(*options), (), 5), many)
        self.assertEqual(departed(self.told, self.thing, self.maker("right", "none"), plain, (), 5), 1)
        self.assertEqual(departed(self.told, self.thing, self.maker("right", "none"), self.maker("right"), (), 5), 1)

    def test_the_told_maker_goes_on_whatever_the_answer_is(self):
        """It says left, then right: whoever says right, then right, departs once."""
        thing = program(then(("plus", ONE, ONE), ("plus", ONE, ONE), ("plus", ONE, ONE)))
        told = document(order=("anew", ("left", "right")))
        choice = (None, "up", 0, 1)
        maker = maker_of(told, thing, choice, ["left", "right", "left"])
        for options, many in ((["right", "right", "left"], 1), (["right", "left", "right"], 3), (["left", "right"], 0)):
            self.assertEqual(departed(told, thing, maker, maker_of(told, thing, choice, options), [], 9), many)

    def test_no_more_than_the_requests_that_are_told(self):
        told = document(order=("anew", ("left", "right")))
        maker, other = [("maker", (None, "up", 0, 1), (((one, 0),),)) for one in ("left", "right")]
        thing = program(("while", ONE, show(("plus", ONE, ONE))))
        for most in (0, 1, 7):
            many = len(requests(told, thing, other, (), most))
            self.assertEqual(departed(told, thing, maker, other, (), most), many)
        silent = program(("while", ONE, ("plus", ONE, ONE)))
        self.assertEqual(departed(told, silent, maker, other, (), 3), 1)
        waiting = program(then(("plus", ONE, ONE), ASK, ("plus", ONE, ONE)))
        self.assertEqual([departed(told, waiting, maker, other, given, 9) for given in ((), [1])], [1, 2])

    def test_unlike_choices(self):
        told = document(order=("anew", ("left", "right")), fill=("run", (0, 1)))
        makers = [("maker", (None, "up", fill, 1), ((("left", 0),),)) for fill in (0, 1)]
        with self.assertRaises(OtherChoice):
            departed(told, self.thing, *makers, (), 1)
        self.assertEqual(departed(told, self.thing, makers[0], makers[0], (), 1), 0)
        for values in ((makers[0], makers[1], None, 1), (makers[0], makers[1], (), None)):
            with self.assertRaises(ValueError) as caught:
                departed(told, self.thing, *values)
            self.assertNotIsInstance(caught.exception, OtherChoice)


class DeparturesTest(unittest.TestCase):
    told = DepartedTest.told
    thing = DepartedTest.thing

    def check(self, told, thing, maker, showing):
        found = departures(told, thing, maker, showing)
        expected = fewest(told, thing, maker, showing)
        if found is None:
            self.assertIsNone(expected, (told, thing, maker, showing))
            return None
        many, other, inputs = found
        self.assertEqual(many, expected, (told, thing, maker, showing))
        self.assertTrue(is_maker(told, thing, other))
        self.assertEqual(other[1], maker[1])
        self.assertEqual(run(told, thing, other, inputs, len(showing[0])), showing)
        self.assertEqual(departed(told, thing, maker, other, inputs, len(showing[0])), many)
        return many

    def test_example(self):
        """Point [47]."""
        maker = ("maker", (None, "up", None, 2), ((("left", 0), (0, 0)),))
        self.assertEqual(self.check(self.told, self.thing, maker, ((("shown", 1),), "ends")), 1)
        self.assertEqual(self.check(self.told, self.thing, maker, ((("shown", 2),), "ends")), 0)
        self.assertEqual(self.check(self.told, self.thing, maker, ((), "ruined")), 2)
        self.assertEqual(self.check(self.told, self.thing, maker, ((("shown", 3),), "ends")), None)
        ruinous = ("maker", (None, "up", None, 2), ((("left", 0), ("none", 0)),))
        self.assertEqual(self.check(self.told, self.thing, ruinous, ((), "ruined")), 1)

    def test_a_departure_to_none_counts_behind_others(self):
        told = document(("anew", ("left", "right")), fill=("anew", (0, "none")))
        maker = ("maker", (None, "up", None, 1), ((("left", 0), (0, 0)),))
        for body, many in ((("plus", name("x"), ONE), 1), (then(name("x"), name("x")), 1),
                           (("plus", put("x", ONE), name("x")), 2), (then(("plus", ONE, put("x", ONE)), name("x")), None)):
            self.assertEqual(self.check(told, program(body), maker, ((), "ruined")), many)

    def test_several_departures_one_behind_another(self):
        """All sequences of answers, each told by what is shown."""
        told = document(("anew", ("left", "right")), width=("run", (1,)))
        thing = program(then(show(BIT), show(BIT), show(BIT)), ("y",))
        for mine in itertools.product(("left", "right"), repeat=3):
            maker = maker_of(told, thing, (None, "up", 0, 1), mine)
            for others in itertools.product(("left", "right"), repeat=3):
                events = tuple(("shown", int(one == "left")) for one in others)
                many = sum(one != other for one, other in zip(mine, others))
                self.assertEqual(self.check(told, thing, maker, (events, "ends")), many)

    def test_each_end(self):
        told = document(order=("anew", ("left", "right")))
        maker = ("maker", (None, "up", 0, 1), ((("left", 0),),))
        for body, showing, many in ((ONE, ((), "ends"), 0), (ASK, ((), "waits"), 0), (ASK, ((), "more"), 0),
                                    (show(ONE), ((), "more"), 0), (("over", ONE, number(0)), ((), "ruined"), 0),
                                    (ONE, ((), "waits"), None), (ASK, ((("asked", 7),), "ends"), 0)):
            self.assertEqual(self.check(told, program(body), maker, showing), many)

    def test_only_makers_with_this_choice(self):
        told = document(fill=("run", (0, 1)))
        maker = ("maker", ("left", "up", 0, 1), ((),))
        self.assertIsNone(self.check(told, program(show(name("x"))), maker, ((("shown", 1),), "ends")))
        self.assertEqual(comes(told, program(show(name("x"))), ((("shown", 1),), "ends"))[0], "comes")

    def test_showings_that_never_end_are_refused(self):
        maker = ("maker", ("left", "up", 0, 1), ((),))
        for call in (departures, lambda *row: floor(*row, 0), lambda *row: is_floor(*row, 0, ())):
            with self.assertRaises(BadShowing):
                call(document(), program(("while", ONE, ONE)), maker, ((), "never"))

    def cases(self, seed, many, most, **told):
        maker = Maker(seed)
        for given, thing in small_cases(seed, many, most, ("anew", "anew", "run"), **told):
            kinds = [pair for pair in given[1:4] if pair[0] == "anew"]
            for choice in choices(given, thing)[:2]:
                size = maker.some((1, 2))
                rows = tuple(tuple((maker.some(pair[1]), maker.some(range(size))) for pair in kinds) for _ in range(size))
                yield given, thing, ("maker", choice, rows)

    def test_many(self):
        found = {}
        for told, thing, maker in self.cases(65, 60, 40):
            events = sorted({events for events, _ in model.showings(told, thing, [maker[1]], 2)})[:6]
            for one in events:
                for end in ENDS:
                    many = self.check(told, thing, maker, (one, end))
                    found[many] = found.get(many, 0) + 1
                    self.floors(told, thing, maker, (one, end), many)
        self.assertGreater(min(found[many] for many in (None, 0, 1)), 5)

    def floors(self, told, thing, maker, showing, many):
        """There is a floor for a number exactly if the showing does not come with fewer departures."""
        for number_ in (0, 1, 2, 3, 200):
            below = floor(told, thing, maker, showing, number_)
            self.assertEqual(below is not None, many is None or many >= number_)
            if below is not None:
                self.assertTrue(is_floor(told, thing, maker, showing, number_, below))
                self.assertTrue(model_is_floor(told, thing, maker, showing, number_, below))

    def test_nearly_right_floors(self):
        checked, departing = {True: 0, False: 0}, 0
        for told, thing, maker in self.cases(66, 40, 12, depth=2, names=("x",)):
            for showing in sorted(model.showings(told, thing, [maker[1]], 1), key=str)[:3]:
                if showing[1] == "never":
                    continue
                many = departures(told, thing, maker, showing)[0]
                found = floor(told, thing, maker, showing, many)
                if len(str(found)) > 700:
                    continue
                departing += max(item[3] for item in found) > 0
                for other in list(nearly(found))[::2] + [found + found[:1], found[::-1]]:
                    for least in (0, many, many + 1):
                        expected = model_is_floor(told, thing, maker, showing, least, other)
                        self.assertIs(is_floor(told, thing, maker, showing, least, other), expected)
                        self.assertFalse(expected and least > many)
                        checked[expected] += 1
        self.assertGreater(min(checked.values()), 100)
        self.assertGreater(departing, 3)

    def test_numbers_of_floors_may_be_less(self):
        maker = ("maker", (None, "up", None, 2), ((("left", 0), (0, 0)),))
        showing = ((("shown", 1),), "ends")
        found = floor(self.told, self.thing, maker, showing, 1)
        least = tuple(item[:3] + (0,) for item in found)
        self.assertTrue(is_floor(self.told, self.thing, maker, showing, 0, least))
        self.assertFalse(is_floor(self.told, self.thing, maker, showing, 1, least))
        self.assertIsNone(floor(document=self.told, program=self.thing, maker=maker, showing=showing, many=2))
        for at, item in enumerate(found):
            higher = found[:at] + (item[:3] + (item[3] + 1,),) + found[at + 1:]
            expected = model_is_floor(self.told, self.thing, maker, showing, 1, higher)
            self.assertIs(is_floor(self.told, self.thing, maker, showing, 1, higher), expected)
        far = document(("anew", ("left", "right")))
        thing = program(("plus", ONE, ONE))
        maker_there = ("maker", (None, "up", 0, 1), ((("left", 0),),))
        below = floor(far, thing, maker_there, ((), "ends"), 0)
        self.assertEqual([item[3] for item in below].count(1), 1)
        for worth, fine in ((0, True), (1, True), (2, False), (3, False)):
            other = tuple(item[:3] + (worth if item[3] else 0,) for item in below)
            self.assertIs(is_floor(far, thing, maker_there, ((), "ends"), 0, other), fine)
        more = found + ((0, 1, (ASK, (None,)), 0),)
        self.assertTrue(is_floor(self.told, self.thing, maker, showing, 1, more))
        self.assertFalse(is_floor(self.told, self.thing, maker, showing, 1, found + ((0, 0, (then(ONE, ASK), (None,)), 0),)))

    def test_a_departure_to_none_is_the_last_one(self):
        told = document(fill=("anew", (0, "none")))
        thing = program(name("x"))
        maker = ("maker", ("left", "up", None, 1), (((0, 0),),))
        found = floor(told, thing, maker, ((), "ruined"), 1)
        self.assertEqual({item[3] for item in found}, {0})
        self.assertTrue(is_floor(told, thing, maker, ((), "ruined"), 1, found))
        self.assertFalse(is_floor(told, thing, maker, ((), "ruined"), 2, found))
        swallowing = ("maker", ("left", "up", None, 1), ((("none", 0),),))
        self.assertIsNone(floor(told, thing, swallowing, ((), "ruined"), 1))
        self.assertFalse(is_floor(told, thing, swallowing, ((), "ruined"), 1, found))
        self.assertTrue(is_floor(told, thing, swallowing, ((), "ruined"), 0, floor(told, thing, swallowing, ((), "ruined"), 0)))

    def test_strange_things(self):
        maker = ("maker", (None, "up", None, 2), ((("left", 0), (0, 0)),))
        for thing in STRANGE:
            self.assertIs(is_floor(self.told, self.thing, maker, ((), "ends"), 0, thing), False)


class RemainingTest(unittest.TestCase):
    def test_ordinary(self):
        told = document(fill=("run", (0, 1)), width=("run", (1, 2)))
        thing = program(show(("plus", name("x"), name("x"))))
        every = choices(told, thing)
        self.assertEqual(remaining(told, thing, ()), every)
        self.assertEqual(remaining(document=told, program=thing, events=(("shown", 2),)), (every[3],))
        self.assertEqual(remaining(told, thing, (("shown", 0),)), every[:3])
        self.assertEqual(remaining(told, thing, (("shown", 3),)), ())
        self.assertEqual(remaining(told, program(ASK), (("asked", 7),)), choices(told, program(ASK)))
        twice = program(then(show(name("x")), show(ONE), ASK))
        every = choices(told, twice)
        self.assertEqual(remaining(told, twice, (("shown", 0), ("shown", 1), ("asked", 3))), every[:2])
        self.assertEqual(remaining(told, twice, (("shown", 1),)), every[2:])
        for events in ((("shown", 0), ("asked", 3)), (("asked", 3),), (("shown", 1), ("asked", 3)), (("shown", 1), ("shown", 0))):
            self.assertEqual(remaining(told, twice, events), ())
        self.assertEqual(remaining(told, program(ASK), (("asked", 7), ("asked", 7))), ())

    def test_many(self):
        parted = 0
        for told, thing in small_cases(67, 60, 40):
            rows = choices(told, thing)
            every = {events for events, _ in model.showings(told, thing, rows, 2)}
            every |= {events[1:] for events in every} | {events[:1] + events[:1] for events in every}
            for events in sorted(every)[:16]:
                left = remaining(told, thing, events)
                expected = [choice for choice in rows if model.lot_behind(told, thing, choice, events)]
                self.assertEqual(list(left), expected)
                parted += 0 < len(left) < len(rows)
        self.assertGreater(parted, 8)


if __name__ == "__main__":
    unittest.main()
