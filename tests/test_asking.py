"""Points [15] to [18]: least documents and those lacking, what a program asks and refuses, several programs."""

import itertools
import unittest

from anymaker.asking import asks, common_asks, common_least, lacking, least_documents, refuses
from anymaker.choices import choices
from anymaker.errors import BadDocument, BadProgram, BadPrograms, TooMany
from anymaker.grades import below, common, is_under, spanned
from anymaker.sheets import sheet
from anymaker.steadies import is_portable
from tests import model
from tests.firstly import all_shown
from tests.nearly import STRANGE
from tests.samples import ASK, BIT, Maker, document, few_standings, name, number, program, put, show, telling, then

ONE = number(1)
ZERO = number(0)
BOTH = ("left", "right")
EXAMPLE = document(("anew", BOTH), ("ever", ("up",)), ("run", (0, 1)), ("ever", (1,)))


def lesser(one, other):
    return one != other and is_under(one, other)


def least(rows):
    return tuple(one for one in rows if not any(lesser(other, one) for other in rows))


def greatest(rows):
    return tuple(one for one in rows if not any(lesser(one, other) for other in rows))


def by_each(told, thing):
    """The documents below, by which the program has all, and by which it is portable, one by one."""
    rows = below(told)
    whole = sheet(told, thing)
    return rows, [one for one in rows if sheet(one, thing) == whole], [one for one in rows if is_portable(one, thing)]


def cases(seed, many, most=30):
    """Pairs with few documents below, and few standings by each."""
    maker = Maker(seed)
    found = []
    while len(found) < many:
        fill = maker.some(((0,), (0, 1), (1, "none"), (0, 1)))
        told = document((maker.some(("part", "place", "anew", "run")), maker.some((BOTH, BOTH, ("right",)))),
                        (maker.some(("run", "place", "anew")), maker.some((("up",), ("up", "down")))),
                        (maker.some(("run", "part", "anew")), fill), (maker.some(("ever", "run")), maker.some(((1,), (2,), (1, 2)))),
                        maker.some(("ahead", "whole")))
        parts = (("p", telling(maker, 1, (), False)),) if maker.some((True, False)) else ()
        thing = program(telling(maker, 2, tuple(part for part, _ in parts), maker.some((True, False))), ("x", "y"), parts)
        if not few_standings(told, thing, 150) or len(choices(told, thing)) > 16:
            continue
        rows = below(told)
        if 2 < len(rows) <= most and all(few_standings(one, thing, 200) for one in rows):
            found.append((told, thing))
    return found


class LeastTest(unittest.TestCase):
    thing = program(show(("plus", name("x"), ZERO)))

    def test_example(self):
        """[18] as it stands."""
        rows = below(EXAMPLE)
        fixed = [document(("run", (side,)), fill=("run", (0, 1))) for side in BOTH]
        told = [document(("anew", BOTH), fill=("run", (fill,))) for fill in (0, 1)]
        self.assertEqual(len(rows), 18)
        self.assertEqual(asks(document=EXAMPLE, program=self.thing), tuple(told))
        self.assertEqual(refuses(document=EXAMPLE, program=self.thing), tuple(fixed))
        self.assertEqual(least_documents(document=EXAMPLE, program=self.thing), tuple(fixed))
        self.assertEqual(lacking(document=EXAMPLE, program=self.thing), tuple(told))

    def test_by_the_words(self):
        found = set()
        for told, thing in cases(221, 45):
            rows, full, portable = by_each(told, thing)
            others = [one for one in rows if one not in full]
            strays = [one for one in rows if one not in portable]
            self.assertEqual(least_documents(told, thing), least(full), (told, thing))
            self.assertEqual(lacking(told, thing), greatest(others))
            self.assertEqual(asks(told, thing), greatest(portable))
            self.assertEqual(refuses(told, thing), least(strays))
            found.add((len(least(full)) > 1, len(others) > 0, len(portable) > 0, len(strays) > 0, len(greatest(portable)) > 1))
        self.assertGreater(len(found), 4)

    def test_hearts(self):
        """HEARTS of [15] and [16]: a document below is told by the least ones, or by the greatest others, never by both."""
        for told, thing in cases(222, 25):
            rows, full, portable = by_each(told, thing)
            pairs = ((least_documents(told, thing), lacking(told, thing), full),
                     (refuses(told, thing), asks(told, thing), [one for one in rows if one not in portable]))
            for low, high, holding in pairs:
                for one in rows:
                    above = any(is_under(other, one) for other in low)
                    under = any(is_under(one, other) for other in high)
                    self.assertNotEqual(above, under)
                    self.assertEqual(above, one in holding)

    def test_all_and_portable_by_brute_force(self):
        """What all makers show, over plain standings and a few inputs, tells what sheets and machines tell."""
        for told, thing in cases(223, 14, 20):
            rows = below(told)
            inputs = [(), (0,), (1,), (0, 1), (3, 2)]
            full, steady = [], []
            whole = [all_shown(told, thing, choices(told, thing), row, 4) for row in inputs]
            for one in rows:
                shown = [all_shown(one, thing, choices(one, thing), row, 4) for row in inputs]
                if shown == whole:
                    full.append(one)
                if all(len(row) == 1 and "ruined" not in [end for _, end in row] for row in shown):
                    steady.append(one)
            self.assertEqual(least_documents(told, thing), least(full))
            self.assertEqual(asks(told, thing), greatest(steady))

    def test_ladder(self):
        """FACTS of [16]: the steps from anew to place, part and run, and that none goes back."""
        def by(scope):
            return document((scope, BOTH), width=("run", (1,)))
        twice = program(show(("same", ("call", "a"), ("call", "a"))), ("y",), (("a", BIT),))
        apart = program(show(("same", BIT, BIT)), ("y",))
        two = program(show(("same", ("call", "a"), ("call", "b"))), ("y",), (("a", BIT), ("b", BIT)))
        for thing, scopes in ((twice, ("run", "part", "place")), (apart, ("run", "part")), (two, ("run",))):
            for scope in ("ever", "program", "run", "part", "place", "anew"):
                fine = scope in scopes or scope in ("ever", "program")
                self.assertEqual(is_portable(by(scope), thing), fine, (scope, thing))
            top = document((scopes[-1], BOTH))
            self.assertEqual(asks(document(("anew", BOTH)), thing)[-1], top)
        for told, thing in cases(224, 20):
            for at in (1, 2, 3):
                ladder = [told[:at] + ((scope, told[at][1]),) + told[at + 1:] for scope in ("anew", "place", "part", "run")]
                ladder = [is_portable(one, thing) for one in ladder if few_standings(one, thing, 400)]
                self.assertEqual(ladder, sorted(ladder))

    def test_no_document_and_all_documents(self):
        never = program(("over", ONE, ZERO))
        self.assertEqual(asks(EXAMPLE, never), ())
        self.assertEqual(len(refuses(EXAMPLE, never)), 4)
        self.assertEqual(least_documents(EXAMPLE, never), tuple(document(("run", (side,)), fill=("run", (fill,))) for side in BOTH for fill in (0, 1)))
        self.assertEqual(lacking(EXAMPLE, never), ())
        fine = program(show(ASK))
        self.assertEqual(asks(EXAMPLE, fine), (below(EXAMPLE)[-1],))
        self.assertEqual(refuses(EXAMPLE, fine), ())

    def test_ruin_is_told_as_a_showing(self):
        """By "whole" as well: sheets tell of "ruined", whatever ruin promises."""
        thing = program(("if", name("x"), ("over", ONE, ZERO, "left"), show(ONE)))
        for ruin in ("ahead", "whole"):
            told = document(fill=("run", (0, 1)), ruin=ruin)
            self.assertEqual(least_documents(told, thing), (told,))
            self.assertEqual(asks(told, thing), (document(ruin=ruin),))
            self.assertEqual(lacking(told, thing), (document(ruin=ruin), document(fill=("run", (1,)), ruin=ruin)))
        none = document(fill=("anew", (0, "none")))
        self.assertEqual(asks(none, program(show(name("x")))), (document(),))

    def test_too_many(self):
        told = document(("anew", BOTH), ("anew", ("up", "down")), ("anew", (0, 1, 2, "none")), ("run", (1, 2)))
        for call in (least_documents, lacking, asks, refuses):
            with self.assertRaises(TooMany) as caught:
                call(told, program(ONE))
            self.assertEqual(caught.exception.most, 1000)
            with self.assertRaises(BadProgram):
                call(told, None)
            with self.assertRaises(BadDocument):
                call(None, None)
        for call in (common_asks, common_least):
            with self.assertRaises(TooMany) as caught:
                call(told, [program(ONE)])
            self.assertEqual(caught.exception.most, 1000)
            with self.assertRaises(BadPrograms):
                call(told, [program(ONE), None])

    def test_hundreds_of_documents(self):
        told = document(("anew", BOTH), ("anew", ("up", "down")), ("part", (0, 1, 2, 3)))
        thing = program(then(("plus", put("x", ONE), put("x", ZERO)), show(name("x"))))
        self.assertEqual(len(below(told)), 936)
        self.assertEqual(asks(told, thing), tuple(
            document(("run", (side,)), ("anew", ("up", "down")), ("part", (0, 1, 2, 3))) for side in BOTH))
        self.assertEqual(len(least_documents(told, thing)), 2 * 4)
        self.assertTrue(all(one[1] == ("run", BOTH) for one in least_documents(told, thing)))


class SeveralTest(unittest.TestCase):
    def groups(self, seed, many):
        maker = Maker(seed)
        found = []
        for told, thing in cases(seed, many, 24):
            others = [one for _, one in cases(maker.random.randint(0, 10 ** 6), 2)]
            others = [one for one in others if all(few_standings(row, one, 200) for row in below(told))]
            found.append((told, [thing] + others))
        return found

    def test_one_program_in_a_list_and_in_a_tuple(self):
        for told, thing in cases(225, 12):
            self.assertEqual(common_asks(document=told, programs=[thing]), asks(told, thing))
            self.assertEqual(common_least(document=told, programs=(thing, thing)), least_documents(told, thing))

    def test_by_the_words(self):
        for told, things in self.groups(226, 15):
            rows = below(told)
            tables = [by_each(told, thing) for thing in things]
            portable = [one for one in rows if all(one in table[2] for table in tables)]
            full = [one for one in rows if all(one in table[1] for table in tables)]
            self.assertEqual(common_asks(told, things), greatest(portable))
            self.assertEqual(common_asks(told, things[::-1]), greatest(portable))
            self.assertEqual(common_least(told, tuple(things)), least(full))

    def test_hearts(self):
        """HEART of [17]: by what is common to one ask of each, and spanned by one least document of each."""
        nothing = 0
        for told, things in self.groups(227, 15) + [self.apart()]:
            met = {None}
            for row in itertools.product(*[asks(told, thing) for thing in things]):
                one = row[0]
                for other in row[1:]:
                    one = None if one is None else common(one, other)
                met.add(one)
            met = sorted(met - {None}, key=below(told).index)
            self.assertEqual(common_asks(told, things), greatest(met))
            nothing += not met
            spans = set()
            for row in itertools.product(*[least_documents(told, thing) for thing in things]):
                one = row[0]
                for other in row[1:]:
                    one = spanned(one, other)
                spans.add(one)
            self.assertEqual(common_least(told, things), least(sorted(spans, key=below(told).index)))
        self.assertGreater(nothing, 0)

    def apart(self):
        one = program(("over", ONE, name("x"), "left"))
        other = program(("over", ONE, ("minus", ONE, name("x"), "left"), "left"))
        return document(fill=("run", (0, 1))), [one, other]

    def test_asks_and_none_in_common(self):
        """FACT of [17]."""
        told, things = self.apart()
        self.assertEqual(asks(told, things[0]), (document(fill=("run", (1,))),))
        self.assertEqual(asks(told, things[1]), (document(fill=("run", (0,))),))
        self.assertEqual(common_asks(told, things), ())

    def test_wrong_programs(self):
        for call in (common_asks, common_least):
            for programs in STRANGE + ([None], [program(ONE), ()], {program(ONE): 1}, program(ONE), [[program(ONE)]]):
                with self.assertRaises(BadPrograms):
                    call(EXAMPLE, programs)
            with self.assertRaises(BadDocument):
                call(None, [])


if __name__ == "__main__":
    unittest.main()
