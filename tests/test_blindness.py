"""Points [144] and [147]: makers that keep blindly, and lot tables that show that none does."""

import itertools
import unittest

from anymaker.blindness import blind_keeping, is_blind_keeping
from anymaker.choices import choices
from anymaker.keeping import keeping
from anymaker.makers import is_maker
from anymaker.runs import run
from tests.games import EXAMPLE, KINDS, SEEN, Plain, cases
from tests.nearly import STRANGE, nearly
from tests.samples import ASK, BIT, document, name, number, program, put, show, then
from tests.test_keeping import near_tables

ONE = number(1)
ZERO = number(0)
BOTH = ("left", "right")


def lot_behind(plain, numbers):
    """The lot behind some standings, None if it is spoilt."""
    found = list(numbers)
    for number_ in found:
        if plain.spoils(number_):
            return None
        if plain.moves[number_][0] != "chooses":
            found += [one for one in plain.nexts(number_) if one not in found]
    return tuple(sorted(one for one in found if plain.moves[one][0] == "chooses"))


def goes_on(told, plain, lot, kind, option):
    """The lot to which this option leads from standings of the kind, None if it is spoilt."""
    at = told[1 + KINDS.index(kind)][1].index(option)
    here = [plain.moves[one][3][at] for one in lot if plain.moves[one][1] == kind]
    return None if None in here else lot_behind(plain, [plain.at[one] for one in here])


def model_is_lot_table(told, plain, table):
    if type(table) is not dict:
        return False
    for lot, pair in table.items():
        if type(lot) is not tuple or not all(map(plain.is_number, lot)) or list(lot) != sorted(set(lot)):
            return False
        if any(plain.moves[one][0] != "chooses" for one in lot):
            return False
        if type(pair) is not tuple or len(pair) != 2 or type(pair[1]) is not int or pair[1] < 0 or type(pair[0]) is not str:
            return False
    first = lot_behind(plain, [0])
    if first is not None and first not in table:
        return False
    for lot, (kind, rank) in table.items():
        if kind not in [plain.moves[one][1] for one in lot]:
            return False
        for option in told[1 + KINDS.index(kind)][1]:
            behind = goes_on(told, plain, lot, kind, option)
            if behind is not None and (behind not in table or table[behind][1] >= rank):
                return False
    return True


def keeps(told, plain, maker):
    """Whether no inputs whatever spoil the run of a maker, by all standings with states."""
    kinds = [kind for kind, pair in zip(KINDS, told[1:5]) if pair[0] == "anew"]
    pending = [(0, 0)]
    for number_, state in pending:
        if plain.spoils(number_):
            return False
        if plain.moves[number_][0] == "chooses":
            kind = plain.moves[number_][1]
            option, after = maker[2][state][kinds.index(kind)]
            behind = plain.moves[number_][3][told[1 + KINDS.index(kind)][1].index(option)]
            if behind is None:
                return False
            nexts = [(plain.at[behind], after)]
        else:
            nexts = [(one, state) for one in plain.nexts(number_)]
        pending += [one for one in nexts if one not in pending]
    return True


def model_is_blind(told, thing, barred, value):
    if type(value) is not tuple or len(value) != 2 or type(value[0]) is not str:
        return False
    rows = choices(told, thing)
    if value[0] == "blind":
        return is_maker(told, thing, value[1]) and keeps(told, Plain(told, thing, value[1][1], barred), value[1])
    if value[0] != "sight" or type(value[1]) is not tuple or len(value[1]) != len(rows):
        return False
    return all(model_is_lot_table(told, Plain(told, thing, choice, barred), table) for choice, table in zip(rows, value[1]))


def blind_choices(told, thing, barred):
    """The choices by which some maker keeps blindly: the lots from which it can, by the greatest lot of lots."""
    found = []
    for choice in choices(told, thing):
        plain = Plain(told, thing, choice, barred)
        first = lot_behind(plain, [0])
        if first is None:
            continue
        lots = [first]
        ways = {}
        for lot in lots:
            ways[lot] = {}
            for kind in {plain.moves[one][1] for one in lot}:
                ways[lot][kind] = [goes_on(told, plain, lot, kind, option) for option in told[1 + KINDS.index(kind)][1]]
                lots += [one for one in ways[lot][kind] if one is not None and one not in lots]
        kept = set(lots)
        while True:
            fewer = {lot for lot in kept if all(any(one in kept for one in behind) for behind in ways[lot].values())}
            if fewer == kept:
                break
            kept = fewer
        if first in kept:
            found.append(choice)
    return found


class BlindTest(unittest.TestCase):
    def test_example(self):
        """[147]: no blind maker does what a seeing one does."""
        word, tables = found = blind_keeping(document=EXAMPLE, program=SEEN, barred=())
        self.assertEqual((word, len(tables)), ("sight", 1))
        self.assertTrue(is_blind_keeping(document=EXAMPLE, program=SEEN, barred=(), thing=found))
        self.assertEqual(keeping(EXAMPLE, SEEN, ())[0], "kept")
        fixed = program(then(put("x", ONE), ("plus", put("y", ZERO), put("y", ONE)),
                             ("over", ONE, ("same", name("x"), name("y"), "left"), "left")), ("x", "y"))
        word, maker = blind_keeping(EXAMPLE, fixed, ())
        self.assertEqual(word, "blind")
        self.assertTrue(keeps(EXAMPLE, Plain(EXAMPLE, fixed, maker[1], ()), maker))

    def test_kinds_of_requests_are_known(self):
        """Blind makers know of which kinds the requests were: a walk or none tells what was asked for."""
        told = document(("anew", BOTH), ("anew", ("up", "down")))
        thing = program(then(("if", put("x", ASK), ("each", "z", 0, 0, ZERO), ZERO), ("plus", put("y", ZERO), put("y", ONE)),
                             ("over", ONE, ("same", name("x"), name("y"), "left"), "left")), ("x", "y", "z"))
        word, maker = blind_keeping(told, thing, ())
        self.assertEqual(word, "blind")
        for given in range(8):
            self.assertEqual(run(told, thing, maker, [given], 9)[1], "ends")
        self.assertEqual(blind_keeping(document(("anew", BOTH)), thing, ())[0], "sight")

    def test_a_first_lot_that_is_spoilt(self):
        for body in (("over", ONE, ZERO), ("over", ONE, ASK), show(ONE)):
            found = blind_keeping(document(), program(body), (1,))
            self.assertEqual(found, ("sight", ({},)))
            self.assertTrue(is_blind_keeping(document(), program(body), (1,), found))
        self.assertEqual(blind_keeping(document(), program(show(ONE)), ()), ("blind", ("maker", ("left", "up", 0, 1), ((),))))
        self.assertFalse(is_blind_keeping(document(), program(show(ONE)), (), ("sight", ({},))))

    def test_many(self):
        """HEART of [144]: for the first choice for which there is one, or a lot table for each."""
        counted = {"blind": 0, "sight": 0}
        for told, thing, barred in cases(321, 140):
            found = blind_keeping(told, thing, barred)
            rows = blind_choices(told, thing, barred)
            self.assertEqual(found[0] == "blind", bool(rows), (told, thing, barred))
            if rows:
                self.assertEqual(found[1][1], rows[0])
            self.assertTrue(is_blind_keeping(told, thing, barred, found))
            self.assertTrue(model_is_blind(told, thing, barred, found), (told, thing, barred, found))
            counted[found[0]] += 1
        self.assertGreater(min(counted.values()), 30)

    def test_what_is_kept_blindly_is_kept_by_sight(self):
        """HEART of [144]; where no kind is anew it is the same."""
        unlike = 0
        for told, thing, barred in cases(322, 80) + [(EXAMPLE, SEEN, ())]:
            blind, sight = blind_keeping(told, thing, barred), keeping(told, thing, barred)
            if blind[0] == "blind":
                self.assertEqual(sight[0], "kept")
            if "anew" not in [pair[0] for pair in told[1:5]]:
                self.assertEqual(blind[0] == "blind", sight[0] == "kept")
            unlike += (blind[0] == "blind") != (sight[0] == "kept")
        self.assertGreater(unlike, 0)
        for told, thing, barred in cases(323, 40, 70, ("run", "ever", "place")):
            self.assertEqual(blind_keeping(told, thing, barred)[0] == "blind", keeping(told, thing, barred)[0] == "kept")

    def test_runs_of_blind_makers(self):
        kept = 0
        for told, thing, barred in cases(324, 60):
            word, maker = blind_keeping(told, thing, barred)
            if word == "blind":
                kept += 1
                for inputs in itertools.islice(itertools.product((0, 1, 6), repeat=4), 0, 81, 5):
                    events, end = run(told, thing, maker, inputs, 60)
                    self.assertNotEqual(end, "ruined")
                    self.assertFalse([event for event in events if event[0] == "shown" and event[1] in barred])
        self.assertGreater(kept, 15)

    def test_nearly(self):
        checked = {True: 0, False: 0}
        for told, thing, barred in cases(325, 30, 40) + [(EXAMPLE, SEEN, ())]:
            found = blind_keeping(told, thing, barred)
            rows = near_tables(found) if found[0] == "sight" else nearly(found)
            for other in list(rows)[:400]:
                fine = model_is_blind(told, thing, barred, other)
                self.assertIs(is_blind_keeping(told, thing, barred, other), fine, (told, thing, barred, other))
                checked[fine] += 1
        self.assertGreater(min(checked.values()), 60)
        for other in STRANGE + (("blind",), ("sight", None), ("blind", None)):
            self.assertIs(is_blind_keeping(EXAMPLE, SEEN, (), other), False)

    def test_other_lots_and_makers_are_let(self):
        word, tables = blind_keeping(EXAMPLE, SEEN, ())
        raised = tuple({lot: (kind, rank + 5) for lot, (kind, rank) in table.items()} for table in tables)
        self.assertTrue(is_blind_keeping(EXAMPLE, SEEN, (), (word, raised)))
        plain = Plain(EXAMPLE, SEEN, choices(EXAMPLE, SEEN)[0], ())
        more = dict(tables[0])
        requests = [at for at, move in enumerate(plain.moves) if move[0] == "chooses"]
        more[tuple(requests)] = ("order", 99)
        self.assertEqual(is_blind_keeping(EXAMPLE, SEEN, (), (word, (more,))), model_is_blind(EXAMPLE, SEEN, (), (word, (more,))))
        more = dict(tables[0])
        more[()] = ("order", 0)
        self.assertFalse(is_blind_keeping(EXAMPLE, SEEN, (), (word, (more,))))
        bit = program(show(BIT), ("y",))
        for side in BOTH:
            maker = ("maker", (None, "up", 0, 1), (((side, 0),),))
            self.assertIs(is_blind_keeping(EXAMPLE, bit, (0,), ("blind", maker)), side == "left")


if __name__ == "__main__":
    unittest.main()
