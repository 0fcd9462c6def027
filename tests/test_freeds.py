"""Points [85], [86]: rows of inputs for which nothing is promised."""

import itertools
import unittest

from anymaker.choices import choices
from anymaker.freeds import freed, is_freed, kept_rows
from anymaker.makers import is_maker
from anymaker.runs import run
from tests import model
from tests.nearly import STRANGE, nearly
from tests.samples import ASK, document, name, number, program, put, show, small_cases, then
from tests.test_comings import model_is_standing
from tests.test_ways import model_used

ONE = number(1)
ZERO = number(0)


def model_freed(document, program, row):
    """Whether some run with these inputs is ruined, by all standings behind so many inputs."""
    for choice in choices(document, program):
        seen = [(model.first(program), 0)]
        for standing, at in seen:
            move = model.moves(document, program, choice, standing)
            if model.ruinous(move):
                return True
            behind = [(one, at) for one in model.silent(move)]
            for event, one in model.eventful(move):
                if event[0] == "shown":
                    behind.append((one, at))
                elif at < len(row) and event[1] == row[at]:
                    behind.append((one, at + 1))
            seen += [pair for pair in behind if pair not in seen]
    return False


def model_is_freed(document, program, row, thing):
    if type(thing) is not tuple or len(thing) != 2 or type(thing[0]) is not str:
        return False
    if thing[0] == "freed":
        return is_maker(document, program, thing[1]) and model_used(document, program, thing[1], row, "ruined") is not None
    rows = choices(document, program)
    if thing[0] != "kept" or type(thing[1]) is not tuple or len(thing[1]) != len(rows):
        return False
    return all(model_is_chain(document, program, choice, row, chain) for choice, chain in zip(rows, thing[1]))


def model_is_chain(document, program, choice, row, chain):
    if type(chain) is not tuple or len(chain) != len(row) + 1:
        return False
    for lot in chain:
        if type(lot) is not tuple or not all(model_is_standing(document, program, choice, one) for one in lot):
            return False
        if any(lot.count(one) > 1 for one in lot):
            return False
    if model.first(program) not in chain[0]:
        return False
    for at, lot in enumerate(chain):
        for standing in lot:
            move = model.moves(document, program, choice, standing)
            if model.ruinous(move) or any(one not in lot for one in model.silent(move)):
                return False
            for event, one in model.eventful(move):
                if event[0] == "shown" and one not in lot:
                    return False
                if event[0] == "asked" and at < len(row) and event[1] == row[at] and one not in chain[at + 1]:
                    return False
    return True


def row_at(rows, inputs):
    """Where kept_rows leads; None if it is freed."""
    at = 0 if rows else None
    for one in inputs:
        at = None if at is None else rows[at][one]
    return at


class FreedTest(unittest.TestCase):
    told = document(("run", ("left",)), fill=("anew", (0, 1)))
    thing = program(("over", number(3), ("plus", ASK, name("x"))))

    def test_example(self):
        """Point [86]."""
        self.assertEqual(kept_rows(self.told, self.thing), ((None,) * 8,))
        for one in range(8):
            self.assertEqual(freed(self.told, self.thing, (one,))[0], "freed")
        self.assertEqual(freed(self.told, self.thing, ())[0], "kept")

    def check(self, told, thing, row):
        found = freed(document=told, program=thing, row=row)
        self.assertEqual(found[0] == "freed", model_freed(told, thing, row), (told, thing, row))
        self.assertTrue(is_freed(told, thing, row, found))
        self.assertTrue(model_is_freed(told, thing, row, found))
        if found[0] == "freed":
            self.assertEqual(run(told, thing, found[1], row, 200)[1], "ruined")
        return found[0] == "freed"

    def test_at_once(self):
        told = document(fill=("run", (0, "none")))
        for row in ((), (1,), (1, 2)):
            self.assertTrue(self.check(told, program(then(show(ONE), name("x"))), row))
        self.assertEqual(kept_rows(told, program(name("x"))), ())

    def test_what_asks_for_nothing_more_is_kept(self):
        for body in (ONE, ("while", ONE, ONE), ("while", ONE, show(ONE))):
            self.assertEqual(kept_rows(document(), program(body)), ((0,) * 8,))
            self.assertFalse(self.check(document(), program(body), (7, 7)))
        self.assertEqual(kept_rows(document(), program(then(ASK, show(ASK)))), ((0,) * 8,))

    def test_one_number_is_freed(self):
        thing = program(("over", ONE, ASK))
        wide = document(width=("run", (3,)))
        self.assertEqual(kept_rows(wide, thing), ((None,) + (1,) * 7, (1,) * 8))
        self.assertEqual(kept_rows(document(width=("run", (1, 3))), thing), ((None, 1) * 4, (1,) * 8))
        self.assertTrue(self.check(wide, thing, (0,)))
        self.assertFalse(self.check(wide, thing, (2, 0)))

    def test_rows_that_lead_back(self):
        told = document(fill=("anew", (0, 1)))
        asking = ("if", name("x"), ASK, ZERO)
        thing = program(("while", ONE, ("if", asking, ("over", ONE, ASK), ZERO)))
        self.assertEqual(kept_rows(told, thing), ((0, 1) * 4, (None, 0) * 4))
        for row in itertools.product((0, 1), repeat=4):
            self.assertEqual(row_at(kept_rows(told, thing), row) is None, self.check(told, thing, row))

    def test_rows_alike_are_one(self):
        thing = program(then(put("x", ASK), show(ASK), ("over", ONE, ASK)))
        rows = kept_rows(document(), thing)
        self.assertEqual(rows, ((1,) * 8, (2,) * 8, (None, 3) * 4, (3,) * 8))

    def test_shown_events_do_not_part(self):
        told = document(order=("anew", ("left", "right")))
        thing = program(then(("plus", show(ZERO), show(ONE)), ("over", ONE, ASK)))
        self.assertEqual(kept_rows(told, thing), ((None, 1) * 4, (1,) * 8))
        word, chains = freed(told, thing, (1,))
        self.assertEqual((word, len(chains[0])), ("kept", 2))

    def test_many(self):
        rows = [()] + [(one,) for one in range(8)] + [(one, other) for one in (0, 1, 3) for other in (0, 1, 6)]
        found = [0, 0]
        for told, thing in small_cases(84, 90, 60):
            kept = kept_rows(document=told, program=thing)
            for row in rows:
                is_one = self.check(told, thing, row)
                self.assertEqual(row_at(kept, row) is None, is_one)
                found[is_one] += 1
                if is_one:
                    self.assertTrue(self.check(told, thing, row + (5,)))
            self.least(kept)
        self.assertGreater(min(found), 100)

    def test_programs_that_ask_more(self):
        """Of these the machines have many rows."""
        long = 0
        for told, inner in small_cases(85, 60, 40, depth=2):
            body = then(put("x", ASK), inner[3], ("over", ONE, ("plus", ASK, name("x"))))
            thing = inner[:3] + (body,)
            kept = kept_rows(told, thing)
            self.least(kept)
            long += len(kept) > 2
            for row in itertools.product((0, 1, 6), repeat=2):
                self.assertEqual(row_at(kept, row) is None, self.check(told, thing, row))
        self.assertGreater(long, 20)

    def least(self, rows):
        """No two rows are alike, and they are numbered as they are met."""
        met = [0] if rows else []
        for at in met:
            met += [one for one in dict.fromkeys(rows[at]) if one is not None and one not in met]
        self.assertEqual(met, list(range(len(rows))))
        kinds = [0] * len(rows)
        for _ in rows:
            keys = [tuple(None if one is None else kinds[one] for one in row) for row in rows]
            kinds = [keys.index(key) for key in keys]
        self.assertEqual(len(set(kinds)), len(rows))

    def test_nearly_right(self):
        checked = {True: 0, False: 0}
        for told, thing in small_cases(86, 30, 14, depth=2, names=("x",)):
            for row in ((), (1,), (0, 2)):
                found = freed(told, thing, row)
                if len(str(found)) > 420:
                    continue
                for other in list(nearly(found)) + [("freed", found[1]), ("kept", found[1])]:
                    expected = model_is_freed(told, thing, row, other)
                    self.assertIs(is_freed(told, thing, row, other), expected, (told, thing, row, other))
                    checked[expected] += 1
        self.assertGreater(min(checked.values()), 20)

    def test_chains_may_have_more(self):
        thing = program(then(ASK, show(ONE)))
        word, (chain,) = freed(document(), thing, (1,))
        self.assertTrue(is_freed(document(), thing, (1,), (word, (tuple(lot[::-1] for lot in chain),))))
        for at in (0, 1):
            for more, fine in ((number(3), True), (ASK, at == 1), (("over", ONE, ZERO, "left"), False), (then(ONE, ASK), False),
                               (show(ONE), at == 1)):
                lots = list(chain)
                lots[at] += ((more, (0,)),)
                if more == show(ONE):
                    lots[at] += ((ONE, (0,)),)
                    fine = True
                self.assertIs(is_freed(document(), thing, (1,), (word, (tuple(lots),))), fine, (at, more))

    def test_a_run_that_shows_for_ever_is_not_ruined(self):
        thing = program(("while", ONE, show(ONE)))
        maker = ("maker", ("left", "up", 0, 1), ((),))
        self.assertIs(is_freed(document(), thing, (), ("freed", maker)), False)

    def test_strange_things(self):
        for thing in STRANGE:
            self.assertIs(is_freed(document(), self.thing, (), thing), False)


if __name__ == "__main__":
    unittest.main()
