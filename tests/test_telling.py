"""Points [92] to [94]: plain documents, documents within others, experiments that tell them."""

import itertools
import unittest

from anymaker.deals import deal, quarrel
from anymaker.documents import is_document
from anymaker.errors import BadDocument, BadLevel, BadSecond, TooMany
from anymaker.plains import is_inside, plain_document
from anymaker.telling import is_telling, telling
from tests.nearly import STRANGE, nearly
from tests.samples import Maker, document, number, program, show, then
from tests.test_deals import LEFT, PAIR, RIGHT, SUMS, WIDE, model_is_record, record_of
from tests.test_grades import KINDS, OPTIONS, all_pairs

BOTH = ("left", "right")
D = document(order=("run", BOTH))
E = document(order=("place", BOTH))
LEVELS = (1, 2, 3)


def documents(seed, many, most=3):
    maker = Maker(seed)
    return [maker.document(widths=maker.some(((1,), (1, 2), (1, 2, 3), (2, 3))), most=most) for _ in range(many)]


def near_documents(seed, many):
    """Pairs of documents that are unlike in one or two kinds, or in ruin."""
    maker = Maker(seed)
    found = []
    for one, other in zip(documents(seed + 1, many), documents(seed + 2, many)):
        rows = list(one)
        for at in maker.random.sample((1, 2, 3, 4, 5), maker.some((1, 1, 2))):
            rows[at] = other[at]
        found.append((one, tuple(rows)))
        found.append((tuple(rows), one))
    return found


def model_plain(told, level):
    """The changes of [92], one behind another."""
    rows = list(told)
    if told[4][1] == (1,):
        lowered = [fill - 2 if fill in (2, 3) else fill for fill in told[3][1]]
        rows[3] = (told[3][0], tuple(sorted(set(lowered), key=OPTIONS["fill"].index)))
    if "none" in rows[3][1]:
        rows[3] = ("ever", ("none",))
    for at in (1, 2, 3, 4):
        if len(rows[at][1]) == 1:
            rows[at] = ("ever", rows[at][1])
        if level == 1 and rows[at][0] in ("program", "run") or level == 2 and rows[at][0] == "program":
            rows[at] = ("ever", rows[at][1])
    return tuple(rows)


FREE = {3: {("ever", "program"), ("ever", "part"), ("ever", "place"), ("ever", "anew"), ("program", "part"), ("program", "place"),
            ("program", "anew"), ("part", "place"), ("part", "anew"), ("place", "anew"), ("program", "run"), ("ever", "run"), ("run", "anew")}}
FREE[2] = FREE[3] | {("program", "ever")}
FREE[1] = FREE[2] | {("run", "ever"), ("run", "program"), ("run", "part"), ("run", "place")}


def model_inside(told, second, level):
    """The words of [92], kind by kind."""
    if (told[5], second[5]) == ("whole", "ahead"):
        return False
    for kind, mine, others in zip(KINDS, told[1:5], second[1:5]):
        lots = [mine[1], others[1]]
        if kind == "fill" and "none" in others[1]:
            continue
        if kind == "fill" and told[4][1] == (1,):
            lots = [{fill if fill == "none" else fill % 2 for fill in lot} for lot in lots]
        if not set(lots[0]) <= set(lots[1]):
            return False
        if len(lots[0]) > 1 and mine[0] != others[0] and (mine[0], others[0]) not in FREE[level]:
            return False
    return True


class PlainTest(unittest.TestCase):
    def test_ordinary(self):
        told = document(("program", BOTH), ("anew", ("up",)), ("run", (0, 2, 3)), ("run", (1,)), "whole")
        for level, order, fill in ((1, "ever", "ever"), (2, "ever", "run"), (3, "program", "run")):
            self.assertEqual(plain_document(document=told, level=level),
                             document((order, BOTH), ("ever", ("up",)), (fill, (0, 1)), ("ever", (1,)), "whole"))
        self.assertEqual(plain_document(document(fill=("anew", (1, 3))), 3)[3], ("ever", (1,)))
        self.assertEqual(plain_document(document(fill=("anew", (1, 3)), width=("run", (1, 2))), 3)[3:5], (("anew", (1, 3)), ("run", (1, 2))))
        self.assertEqual(plain_document(document(fill=("place", (0, 1, "none")), width=("run", (2,))), 2)[3:5],
                         (("ever", ("none",)), ("ever", (2,))))

    def test_by_the_words(self):
        for told in documents(271, 400, 5):
            for level in LEVELS:
                found = plain_document(told, level)
                self.assertTrue(is_document(found))
                self.assertEqual(found, model_plain(told, level))
                self.assertEqual(plain_document(found, level), found)

    def test_how_many_there_are(self):
        """FACT of [92], kind by kind: plain documents hang together by the widths alone."""
        for level, many in ((1, 21672), (2, 59584), (3, 128384)):
            order = {plain_document(document(order=pair), level)[1] for pair in all_pairs("order")}
            walk = {plain_document(document(walk=pair), level)[2] for pair in all_pairs("walk")}
            both = set()
            for width in all_pairs("width"):
                both |= {plain_document(document(fill=pair, width=width), level)[3:5] for pair in all_pairs("fill")}
            self.assertEqual(len(order) * len(walk) * len(both) * 2, many)

    def test_levels(self):
        for level in STRANGE + (4, "1", (1,), 1 == 1):
            if level in LEVELS and type(level) is int:
                continue
            for call in (lambda: plain_document(D, level), lambda: is_inside(D, E, level), lambda: telling(D, E, level),
                         lambda: is_telling(D, E, level, None)):
                with self.assertRaises(BadLevel):
                    call()
        for call in (is_inside, telling):
            with self.assertRaises(BadDocument):
                call(None, None, None)
            with self.assertRaises(BadSecond):
                call(D, None, None)
        with self.assertRaises(BadSecond):
            is_telling(D, D[:5], 1, [])
        with self.assertRaises(BadDocument):
            plain_document(None, None)


class InsideTest(unittest.TestCase):
    def test_by_the_words(self):
        counted = {True: 0, False: 0}
        for one, other in near_documents(272, 500) + [(one, one) for one in documents(273, 30)]:
            for level in LEVELS:
                fine = model_inside(one, other, level)
                self.assertIs(is_inside(one, other, level), fine, (one, other, level))
                counted[fine] += 1
        self.assertGreater(min(counted.values()), 500)

    def test_scopes_that_stand_beside_one_another(self):
        for one, other in itertools.product(("ever", "program", "part", "place", "run", "anew"), repeat=2):
            for level in LEVELS:
                fine = one == other or (one, other) in FREE[level]
                told, second = document(order=(one, BOTH)), document(order=(other, BOTH))
                self.assertIs(is_inside(document=told, second=second, level=level), fine, (one, other, level))
                self.assertIs(is_inside(document(order=(one, BOTH[1:])), second, level), True)

    def test_plain_documents_are_equal_just_if_each_is_within_the_other(self):
        """HEART of [92]."""
        alike = 0
        pairs = near_documents(274, 500)
        pairs += [(one, model_plain(one, level)) for one in documents(275, 60) for level in LEVELS]
        for one, other in pairs:
            for level in LEVELS:
                both = is_inside(one, other, level) and is_inside(other, one, level)
                self.assertEqual(both, plain_document(one, level) == plain_document(other, level), (one, other, level))
                alike += both
        self.assertGreater(alike, 150)

    def test_what_is_within_lets_all_records(self):
        """HEART of [92], by records of the level that the first one lets."""
        let = {level: 0 for level in LEVELS}
        maker = Maker(276)
        for one, other in near_documents(277, 500):
            levels = [level for level in LEVELS if is_inside(one, other, level)]
            if not levels or one == other:
                continue
            level = maker.some(levels)
            things = [self.thing(maker) for _ in range(1 if level < 3 else 2)]
            try:
                records = [record_of(maker, one, maker.some(things)) for _ in range(1 if level == 1 else maker.some((2, 3)))]
                if deal(one, records) is None:
                    continue
                self.assertIsNotNone(deal(other, records), (one, other, level, records))
            except TooMany:
                continue
            let[level] += 1
        self.assertGreater(min(let.values()), 20)

    def thing(self, maker):
        from tests.samples import few_standings, telling
        while True:
            thing = program(telling(maker, 2), ("x", "y"))
            if few_standings(document(("anew", BOTH), ("anew", ("up", "down")), ("anew", (0, 1, 2)), ("run", (1, 2, 3))), thing, 500):
                return thing


class TellingTest(unittest.TestCase):
    def test_example(self):
        """[94] as it stands."""
        self.assertIs(is_inside(D, E, 1), True)
        self.assertIs(is_inside(D, E, 2), False)
        self.assertIsNone(telling(document=D, second=E, level=1))
        rows = [(PAIR, (), ((("shown", 1), ("shown", 0)), "ends")), (PAIR, (), ((("shown", 0), ("shown", 1)), "ends"))]
        self.assertIs(is_telling(document=D, second=E, level=2, thing=rows), True)
        self.assertEqual(quarrel(E, rows), (0, 1))
        found = telling(D, E, 2)
        self.assertEqual(len(found), 2)
        self.assertIs(is_telling(D, E, 2, found), True)

    def test_exactly_where_one_is_not_within_the_other(self):
        """HEARTS of [92] and [93]: where there is one, one record or two are enough."""
        counted = {0: 0, 1: 0, 2: 0}
        pairs = near_documents(281, 230)
        for kind in KINDS:
            rows = [pair for pair in all_pairs(kind) if len(pair[1]) == 2][:12 if kind == "fill" else 18]
            for one, other in itertools.product(rows, repeat=2):
                pairs.append((document(**{kind: one}), document(**{kind: other})))
        for one, other in pairs:
            for level in LEVELS:
                found = telling(one, other, level)
                self.assertEqual(found is None, is_inside(one, other, level), (one, other, level))
                counted[len(found or ())] += 1
                if found is None:
                    continue
                self.assertIsInstance(found, list)
                self.assertEqual(len(found), 2 if is_inside(one, other, 1) else 1)
                self.assertTrue(all(model_is_record(record) for record in found))
                self.assertTrue(self.tells(one, other, level, found), (one, other, level, found))
                self.assertTrue(is_telling(one, other, level, found), (one, other, level, found))
        self.assertGreater(min(counted.values()), 50)

    def tells(self, told, second, level, records):
        programs = {record[0] for record in records}
        if level == 1 and len(records) != 1 or level == 2 and len(programs) != 1:
            return False
        return deal(told, records) is not None and deal(second, records) is None

    def test_plain_documents_are_told_by_nothing(self):
        """HEART of [92]: equal plain documents, no experiment either way; unlike ones, one of the two ways."""
        for one, other in near_documents(282, 200):
            for level in LEVELS:
                ways = [telling(one, other, level), telling(other, one, level)]
                self.assertEqual(plain_document(one, level) == plain_document(other, level), ways == [None, None])

    def test_levels_of_experiments(self):
        ever = document(order=("ever", BOTH))
        later = (program(then(("plus", show(number(1)), show(number(0))), number(0))), (), RIGHT[2])
        for rows, levels in (([LEFT, RIGHT], (2, 3)), ((LEFT, RIGHT), (2, 3)), ([LEFT, later], (3,)), ([LEFT], ()), ([RIGHT, LEFT, LEFT], (2, 3)),
                             ([LEFT, LEFT, later], (3,))):
            for level in LEVELS:
                self.assertIs(is_telling(D, ever, level, rows), level in levels, (rows, level))
        part = program(then(("call", "p"), ("plus", show(number(1)), show(number(0)))), ("x",),
                       (("p", ("plus", show(number(1)), show(number(0)))),))
        record = (part, (), ((("shown", 1), ("shown", 0), ("shown", 0), ("shown", 1)), "ends"))
        for level in LEVELS:
            self.assertIs(is_telling(document(order=("part", BOTH)), D, level, [record]), True)
            self.assertIs(is_telling(D, document(order=("part", BOTH)), level, [record]), False)

    def test_other_values(self):
        for level in LEVELS:
            for thing in STRANGE + ([None], [LEFT] * 9, {LEFT: 1}, LEFT):
                self.assertIs(is_telling(D, E, level, thing), False)
        checked = {True: 0, False: 0}
        for level, second in ((2, E), (3, document(order=("ever", BOTH))), (1, document(order=("run", ("left",))))):
            found = telling(D, second, level)
            for other in nearly(found):
                fine = isinstance(other, (list, tuple)) and 1 <= len(other) <= 8 and all(map(model_is_record, other))
                fine = fine and self.tells(D, second, level, other)
                self.assertIs(is_telling(D, second, level, other), fine, (level, other))
                checked[fine] += 1
        self.assertGreater(min(checked.values()), 2)

    def test_too_many_choices(self):
        record = (SUMS, (), ((), "ends"))
        for one, other in ((WIDE, E), (E, WIDE), (WIDE, WIDE)):
            for level in LEVELS:
                with self.assertRaises(TooMany) as caught:
                    is_telling(one, other, level, [record])
                self.assertEqual(caught.exception.most, 400)
                self.assertIs(is_telling(one, other, level, [record, 1]), False)

    def test_fills_by_narrow_widths(self):
        narrow = document(fill=("run", (0, 3)))
        for other, fine in ((document(fill=("run", (1, 2))), True), (document(fill=("run", (2,))), False),
                            (document(fill=("run", (0, 1, 2)), width=("run", (1, 2))), True),
                            (document(fill=("anew", (2, "none"))), True), (document(fill=("ever", (0, 1))), True)):
            self.assertIs(is_inside(narrow, other, 1), fine, other)
            self.assertEqual(telling(narrow, other, 1) is None, fine)
        wide = document(fill=("run", (0, 3)), width=("run", (1, 2)))
        self.assertIs(is_inside(wide, document(fill=("run", (0, 1)), width=("run", (1, 2))), 3), False)
        self.assertIs(is_inside(document(fill=("run", (0, 2))), document(fill=("ever", (0, 2))), 3), True)

    def test_ruin(self):
        ahead, whole = document(), document(ruin="whole")
        for level in LEVELS:
            self.assertIs(is_inside(ahead, whole, level), True)
            self.assertIs(is_inside(whole, ahead, level), False)
            self.assertTrue(is_telling(whole, ahead, level, telling(whole, ahead, level)))


if __name__ == "__main__":
    unittest.main()
