"""Points [13] and [14]: grades, documents under others, all documents below, what is common and spanned."""

import itertools
import unittest

from anymaker.choices import choices
from anymaker.documents import is_document
from anymaker.errors import BadDocument, BadRuin, TooMany
from anymaker.grades import below, common, graded, is_under, spanned
from anymaker.sheets import sheet
from tests import model
from tests.samples import Maker, document, small_cases, telling_cases

BOTH = ("left", "right")
KINDS = ("order", "walk", "fill", "width")
OPTIONS = {"order": ("left", "right"), "walk": ("up", "down"), "fill": (0, 1, 2, 3, "none"), "width": (1, 2, 3)}
SCOPES = ("ever", "program", "part", "place", "run", "anew")
GRADES = {"ever": 0, "program": 0, "run": 0, "part": 1, "place": 2, "anew": 3}


def grade(pair):
    return 0 if len(pair[1]) == 1 else GRADES[pair[0]]


def under(one, other):
    """By the words of [13]."""
    return one[5] == other[5] and all(
        set(mine[1]) <= set(others[1]) and grade(mine) <= grade(others) for mine, others in zip(one[1:5], other[1:5]))


def is_graded(told):
    return all(pair[0] == "run" for pair in told[1:5] if grade(pair) == 0)


def all_pairs(kind):
    """All pairs of a scope and options that a kind may have."""
    scopes = ("ever", "program", "run") if kind == "width" else SCOPES
    lots = [lot for many in range(1, 6) for lot in itertools.combinations(OPTIONS[kind], many)]
    return [(scope, lot) for scope in scopes for lot in lots]


def place_in_order(told):
    return [(len(pair[1]), [OPTIONS[kind].index(one) for one in pair[1]], grade(pair)) for kind, pair in zip(KINDS, told[1:5])]


def model_below(told):
    """All graded documents under this one, of all that there are."""
    rows = [[pair for pair in all_pairs(kind) if set(pair[1]) <= set(mine[1])] for kind, mine in zip(KINDS, told[1:5])]
    found = [("document",) + pairs + (told[5],) for pairs in itertools.product(*rows)]
    return tuple(sorted((one for one in found if is_graded(one) and under(one, told)), key=place_in_order))


def documents(seed, many, fills=(0, 1, 2, 3, "none"), most=2):
    maker = Maker(seed)
    return [maker.document(fills=fills, widths=(1, 2, 3), most=most) for _ in range(many)]


class GradedTest(unittest.TestCase):
    def test_each_scope(self):
        for scope, told in (("ever", "run"), ("program", "run"), ("run", "run"), ("part", "part"), ("place", "place"), ("anew", "anew")):
            for at, kind in enumerate(KINDS[:3]):
                for options in (OPTIONS[kind][:1], OPTIONS[kind][:2], OPTIONS[kind]):
                    pairs = [("ever", OPTIONS[one][:1]) for one in KINDS]
                    pairs[at] = (scope, options)
                    found = graded(document=("document",) + tuple(pairs) + ("whole",))
                    self.assertTrue(is_document(found))
                    self.assertEqual(found[1 + at], (told if len(options) > 1 else "run", options))
                    self.assertEqual([pair[0] for one, pair in enumerate(found[1:5]) if one != at], ["run"] * 3)
                    self.assertEqual(found[5], "whole")
        self.assertEqual(graded(document(width=("ever", (1, 3))))[4], ("run", (1, 3)))

    def test_under(self):
        told = documents(211, 60, (0, 1, "none"))
        counted = [0, 0]
        for one, other in itertools.product(told, repeat=2):
            self.assertIs(is_under(one, other), under(one, other))
            counted[under(one, other)] += 1
        self.assertGreater(min(counted), 50)
        for one in told:
            self.assertTrue(is_under(document=one, other=one))
            self.assertTrue(is_under(one, graded(one)))
            self.assertTrue(is_under(graded(one), one))
            self.assertTrue(is_graded(graded(one)))

    def test_each_step_of_scopes(self):
        for one, other in itertools.product(SCOPES, repeat=2):
            fine = GRADES[one] <= GRADES[other]
            self.assertIs(is_under(document(order=(one, BOTH)), document(order=(other, BOTH))), fine)
            self.assertIs(is_under(document(order=(one, BOTH[:1])), document(order=(other, BOTH))), True)
            self.assertIs(is_under(document(order=(one, BOTH[1:])), document(order=(other, BOTH[:1]))), False)
        self.assertIs(is_under(document(ruin="whole"), document()), False)
        self.assertIs(is_under(document(), document(ruin="whole")), False)

    def test_showings_by_documents_under_others(self):
        """FACT: none but those by the other one; with one graded document they are the same."""
        for told, thing in telling_cases(212, 25, 60, asks=False):
            self.assertEqual(sheet(told, thing), sheet(graded(told), thing))
            mine = model.showings(told, thing, choices(told, thing), 2)
            for other in below(told)[::7]:
                self.assertTrue(is_under(other, told))
                self.assertLessEqual(model.showings(other, thing, choices(other, thing), 2), mine)


class BelowTest(unittest.TestCase):
    def test_example(self):
        """[18]: six times one times three documents, the first one with left, up, 0."""
        told = document(("anew", BOTH), ("ever", ("up",)), ("run", (0, 1)), ("ever", (1,)))
        found = below(document=told)
        self.assertEqual(len(found), 18)
        self.assertEqual(found[0], document())
        self.assertEqual([one[1] for one in found[::3]], [
            ("run", ("left",)), ("run", ("right",)), ("run", BOTH), ("part", BOTH), ("place", BOTH), ("anew", BOTH)])
        self.assertEqual([one[3] for one in found[:3]], [("run", (0,)), ("run", (1,)), ("run", (0, 1))])

    def test_alone(self):
        for scope in SCOPES:
            told = document((scope, ("right",)), (scope, ("down",)), (scope, ("none",)), ("ever", (3,)), "whole")
            self.assertEqual(below(told), (graded(told),))

    def test_many_against_all_documents(self):
        for told in documents(213, 12, most=2) + [document(fill=("anew", (0, 2, "none"))), document(width=("ever", (1, 2, 3)))]:
            found = below(told)
            self.assertEqual(found, model_below(told))
            self.assertTrue(all(is_document(one) for one in found))

    def test_more_than_1000(self):
        large = document(("anew", BOTH), ("anew", ("up", "down")), ("part", (0, 1, 2, 3)), ("run", (1,)))
        self.assertEqual(len(below(large)), 6 * 6 * (4 + 2 * 11))
        for told in (document(("anew", BOTH), ("anew", ("up", "down")), ("anew", (0, 1, 2, "none")), ("run", (1, 2))),
                     document(("anew", BOTH), ("anew", ("up", "down")), ("anew", OPTIONS["fill"]), ("ever", (1, 2, 3)))):
            with self.assertRaises(TooMany) as caught:
                below(told)
            self.assertEqual(caught.exception.most, 1000)
        with self.assertRaises(BadDocument):
            below(None)


class CommonTest(unittest.TestCase):
    def test_ordinary(self):
        one = document(("place", BOTH), ("run", ("up",)), ("anew", (0, 1, 2)), ("run", (1, 2)))
        other = document(("part", BOTH), ("run", ("up", "down")), ("place", (1, 2, "none")), ("ever", (2, 3)))
        self.assertEqual(common(document=one, other=other),
                         document(("part", BOTH), ("run", ("up",)), ("place", (1, 2)), ("run", (2,))))
        self.assertEqual(spanned(document=one, other=other),
                         document(("place", BOTH), ("run", ("up", "down")), ("anew", (0, 1, 2, "none")), ("run", (1, 2, 3))))
        self.assertIsNone(common(document(("run", ("left",))), document(("run", ("right",)))))
        self.assertEqual(spanned(document(("anew", ("left",))), document(("anew", ("right",)))), document(("run", BOTH)))
        for told in (common, spanned):
            with self.assertRaises(BadRuin):
                told(document(), document(ruin="whole"))
            with self.assertRaises(BadDocument):
                told(document(), None)
            with self.assertRaises(BadDocument):
                told(None, document(ruin="whole"))

    def test_greatest_and_least(self):
        """By the words: the greatest graded document under both, the least one that both are under."""
        lacking = 0
        whole = document(("anew", BOTH), ("anew", ("up",)), ("anew", (0, 1, "none")), ("run", (1, 2)))
        every = below(whole)
        rows = [one for one in documents(214, 400, (0, 1, "none")) if under(one, whole)][:14]
        self.assertEqual(len(rows), 14)
        for one, other in itertools.product(rows, repeat=2):
            lower = [told for told in every if under(told, one) and under(told, other)]
            found = common(one, other)
            self.assertEqual(found, next((told for told in lower if all(under(low, told) for low in lower)), None))
            self.assertEqual(found is None, not lower)
            lacking += found is None
            higher = [told for told in every if under(one, told) and under(other, told)]
            self.assertEqual([spanned(one, other)], [told for told in higher if all(under(told, high) for high in higher)])
        self.assertGreater(lacking, 10)
        for told, _ in small_cases(215, 3, 60):
            self.assertEqual(common(told, told), graded(told))
            self.assertEqual(spanned(told, told), graded(told))


if __name__ == "__main__":
    unittest.main()
