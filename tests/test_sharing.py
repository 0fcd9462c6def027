"""Point [145]: one maker for several programs."""

import itertools
import unittest

from anymaker.choices import choices, is_choice
from anymaker.errors import BadBarred, BadPrograms
from anymaker.keeping import keeping
from anymaker.sharing import is_keeping_all, keeping_all
from tests.games import Plain, cases, is_keeping_table, is_spoiling_table, kept_set
from tests.nearly import STRANGE, nearly
from tests.samples import BIT, Maker, document, few_standings, name, number, program, show, then

ONE = number(1)
ZERO = number(0)
BOTH = ("left", "right")
LEFT = program(("over", ONE, ("same", BIT, ONE, "left"), "left"), ("x", "y"))
RIGHT = program(("over", ONE, ("same", BIT, ZERO, "left"), "left"), ("x", "y"))


def ever_parts(told):
    rows = [pair[1] if pair[0] == "ever" else (None,) for pair in told[1:5]]
    return list(itertools.product(*rows))


def ever_part(told, choice):
    return tuple(item if pair[0] == "ever" else None for pair, item in zip(told[1:5], choice))


def model_is_all(told, programs, barred, value):
    if type(value) is not tuple or len(value) != 2 or type(value[0]) is not str or type(value[1]) is not tuple:
        return False
    if value[0] == "kept":
        if len(value[1]) != len(programs):
            return False
        for thing, pair in zip(programs, value[1]):
            if type(pair) is not tuple or len(pair) != 2 or not is_choice(told, thing, pair[0]):
                return False
            if not is_keeping_table(Plain(told, thing, pair[0], barred), pair[1]):
                return False
        return len({ever_part(told, choice) for choice, _ in value[1]}) == 1
    if value[0] != "spoilt" or len(value[1]) != len(ever_parts(told)):
        return False
    for ever, row in zip(ever_parts(told), value[1]):
        if type(row) is not tuple or len(row) != 2 or type(row[0]) is not int or not 0 <= row[0] < len(programs):
            return False
        rows = [choice for choice in choices(told, programs[row[0]]) if ever_part(told, choice) == ever]
        if type(row[1]) is not tuple or len(row[1]) != len(rows):
            return False
        if not all(is_spoiling_table(Plain(told, programs[row[0]], choice, barred), table) for choice, table in zip(rows, row[1])):
            return False
    return True


def groups(seed, many, scopes=("ever", "ever", "anew", "run")):
    """Documents with one to four programs."""
    maker = Maker(seed)
    found = []
    rows = cases(seed + 1, many * 3, 40, scopes)
    for told, thing, barred in rows[:many]:
        others = [one for _, one, _ in maker.random.sample(rows, 6)]
        others = [one for one in others if few_standings(told, one, 60) and len(choices(told, one)) <= 8]
        found.append((told, [thing] + others[:maker.some((0, 1, 1, 2, 3))], barred))
    return found


class SharingTest(unittest.TestCase):
    def test_kept_alone_and_not_together(self):
        for scope, word in (("ever", "spoilt"), ("program", "kept"), ("run", "kept"), ("anew", "kept"), ("place", "kept")):
            told = document((scope, BOTH))
            for thing in (LEFT, RIGHT):
                self.assertEqual(keeping(told, thing, ())[0], "kept")
            found = keeping_all(document=told, programs=[LEFT, RIGHT], barred=())
            self.assertEqual(found[0], word, scope)
            self.assertTrue(is_keeping_all(document=told, programs=(LEFT, RIGHT), barred=(), thing=found))
            self.assertEqual(keeping_all(told, (LEFT, LEFT), ())[0], "kept")
            self.assertEqual(keeping_all(told, [RIGHT], ())[0], "kept")
        found = keeping_all(document(("ever", BOTH)), [LEFT, RIGHT], ())
        self.assertEqual([row[0] for row in found[1]], [1, 0])
        self.assertEqual(keeping_all(document(("ever", BOTH)), [RIGHT, RIGHT], ())[1][0][0], ("right", "up", 0, 1))

    def test_the_first_ever_part(self):
        told = document(("ever", BOTH), fill=("ever", (0, 1)), width=("run", (1, 2)))
        read = program(("over", ONE, name("x"), "left"), ("x", "y"))
        found = keeping_all(told, [RIGHT, read], ())
        self.assertEqual([choice for choice, _ in found[1]], [("right", "up", 1, 1)] * 2)
        found = keeping_all(told, [RIGHT, read, program(show(name("x")))], (1,))
        self.assertEqual((found[0], [row[0] for row in found[1]]), ("spoilt", [0, 0, 1, 2]))

    def test_many(self):
        """HEART of [145]: for the first ever part for which all can be kept, or a program for each that cannot."""
        counted = {}
        for told, programs, barred in groups(331, 70):
            found = keeping_all(told, programs, barred)
            fine = []
            for ever in ever_parts(told):
                rows = [[choice for choice in choices(told, thing) if ever_part(told, choice) == ever
                         and 0 in kept_set(Plain(told, thing, choice, barred))] for thing in programs]
                if all(rows):
                    fine.append(tuple(row[0] for row in rows))
            self.assertEqual(found[0], "kept" if fine else "spoilt", (told, programs, barred))
            if fine:
                self.assertEqual(tuple(choice for choice, _ in found[1]), fine[0])
            self.assertTrue(is_keeping_all(told, programs, barred, found))
            self.assertTrue(model_is_all(told, programs, barred, found))
            if all(len(pair[1]) == 1 for pair in told[1:5] if pair[0] == "ever"):
                self.assertEqual(bool(fine), all(keeping(told, thing, barred)[0] == "kept" for thing in programs))
            key = (found[0], len(programs) > 1, len(ever_parts(told)) > 1)
            counted[key] = counted.get(key, 0) + 1
        self.assertGreaterEqual(len(counted), 7, counted)

    def test_one_program_is_as_keeping(self):
        for told, programs, barred in groups(332, 30):
            for thing in programs:
                mine, one = keeping_all(told, [thing], barred), keeping(told, thing, barred)
                self.assertEqual(mine[0], one[0])
                if one[0] == "kept":
                    self.assertEqual(mine[1][0], one[1:])

    def test_wrong_programs(self):
        told = document(("ever", BOTH))
        for programs in STRANGE + ([LEFT] * 5, [LEFT, None], {LEFT: 1}, LEFT, [LEFT, list(RIGHT)]):
            for call in (lambda: keeping_all(told, programs, ()), lambda: is_keeping_all(told, programs, (), None)):
                with self.assertRaises(BadPrograms):
                    call()
        self.assertEqual(len(keeping_all(told, [LEFT] * 4, ())[1]), 4)
        with self.assertRaises(BadBarred):
            keeping_all(told, [LEFT], (1, 0))

    def test_nearly(self):
        checked = {True: 0, False: 0}
        for told, programs, barred in groups(333, 14) + [(document(("ever", BOTH)), [LEFT, RIGHT], ())]:
            found = keeping_all(told, programs, barred)
            for other in self.near(found):
                fine = model_is_all(told, programs, barred, other)
                self.assertIs(is_keeping_all(told, programs, barred, other), fine, (told, programs, barred, other))
                checked[fine] += 1
        self.assertGreater(min(checked.values()), 20)
        for other in STRANGE + (("kept",), ("spoilt", None), ("kept", ()), ("kept", (None, None))):
            self.assertIs(is_keeping_all(document(("ever", BOTH)), [LEFT, RIGHT], (), other), False)

    def near(self, found):
        """Values that are unlike in one part, in the tables as well."""
        word, rows = found
        yield from ((word, list(rows)), (word, rows[:-1]), (word, rows + rows[:1]), (word, rows[::-1]), list(found), found[:1], found)
        for other in ("kept", "spoilt", word + "s", None):
            yield (other, rows)
        for at, (first, second) in enumerate(rows):
            for one in nearly(first):
                yield (word, rows[:at] + ((one, second),) + rows[at + 1:])
            tables = [second] if isinstance(second, dict) else list(second)
            for index, table in enumerate(tables):
                for key, value in list(table.items())[:8]:
                    fewer = {one: other for one, other in table.items() if one != key}
                    for changed in [fewer] + [{**table, key: one} for one in nearly(value)]:
                        new = changed if isinstance(second, dict) else tuple(tables[:index] + [changed] + tables[index + 1:])
                        yield (word, rows[:at] + ((first, new),) + rows[at + 1:])

    def test_other_ever_parts_are_let(self):
        told = document(("run", BOTH), fill=("ever", (0, 1)))
        thing = program(then(show(name("x")), ZERO))
        for fill in (0, 1):
            choice = ("right", "up", fill, 1)
            plain = Plain(told, thing, choice, ())
            table = {at: None for at in range(len(plain.moves))}
            self.assertTrue(is_keeping_all(told, [thing], (), ("kept", ((choice, table),))))
            other = (("left", "up", fill, 1), table)
            self.assertTrue(is_keeping_all(told, [thing] * 2, (), ("kept", ((choice, table), other))))
            apart = (("left", "up", 1 - fill, 1), table)
            self.assertFalse(is_keeping_all(told, [thing] * 2, (), ("kept", ((choice, table), apart))))


if __name__ == "__main__":
    unittest.main()
