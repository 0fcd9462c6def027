"""Points [2] and [180]: all roads tell the same, over programs, texts, experiments, contracts and friendly makers."""

import itertools
import unittest

from anymaker.anywhere import right_anywhere
from anymaker.asking import asks
from anymaker.blames import blamed
from anymaker.blindness import blind_keeping
from anymaker.choices import choices
from anymaker.comings import comes
from anymaker.contracts import is_kept
from anymaker.deals import deal
from anymaker.ends import weakest_contract
from anymaker.errors import BadText, TooMany
from anymaker.freeds import freed
from anymaker.grades import below, graded, is_under
from anymaker.keeping import keeping
from anymaker.machines import machine_of, shown_by
from anymaker.makers import maker_of
from anymaker.patches import put
from anymaker.pinning import pinned, writings
from anymaker.playing import played
from anymaker.plains import is_inside
from anymaker.programs import places
from anymaker.reading import read
from anymaker.rewriting import right_program
from anymaker.ruins import ruin
from anymaker.runs import run
from anymaker.sheets import sheet
from anymaker.steadies import is_portable
from anymaker.writing import text_of
from tests import games, linked
from tests.samples import ASK, BIT, Maker, document, name, number, program, put as set_to, show, telling_cases, then
from tests.test_patches import all_nodes, is_alone
from tests.test_pins import plain_cases
from tests.texts import Writer

ONE = number(1)
ZERO = number(0)
BOTH = ("left", "right")


def portable_cases(seed, many):
    """Portable programs that let their makers choose."""
    found = []
    for told, thing in telling_cases(seed, many * 12, 70, choices_at_most=12):
        if is_portable(told, thing) and any(len(pair[1]) > 1 for pair in told[1:5]):
            found.append((told, thing))
    return found[:many]


def some_runs(maker, told, thing, many):
    """Makers and inputs of a program."""
    let = [option for pair in told[1:5] if pair[0] == "anew" for option in pair[1]]
    for _ in range(many):
        options = [maker.some(let) for _ in range(4)] if let else []
        inputs = tuple(maker.some(range(8)) for _ in range(maker.some((0, 1, 2, 3))))
        yield maker_of(told, thing, maker.some(choices(told, thing)), options), inputs


def sheet_of_machine(machine):
    """The sheet with just the showings of a machine."""
    rows, places_of_rows = [0], {0: 0}
    found = []
    for row in rows:
        head = machine[1][row]
        goes = []
        if head[0] == "shows":
            goes = [(("shown", head[1]), head[2])]
        elif head[0] == "asks":
            goes = [(("asked", given), behind) for given, behind in enumerate(head[1])]
        for _, behind in goes:
            if behind not in places_of_rows:
                places_of_rows[behind] = len(rows)
                rows.append(behind)
        found.append((() if goes else (head[0],), tuple((event, places_of_rows[behind]) for event, behind in goes)))
    return tuple(found)


class WholeTest(unittest.TestCase):
    def test_a_steady_program_has_one_machine_and_it_is_its_sheet(self):
        maker = Maker(601)
        rows = portable_cases(602, 40)
        for told, thing in rows:
            machine = machine_of(told, thing, choices(told, thing)[0])
            self.assertEqual(sheet(told, thing), sheet_of_machine(machine))
            for one, inputs in some_runs(maker, told, thing, 4):
                for most in (0, 2, 9):
                    self.assertEqual(run(told, thing, one, inputs, most), shown_by(machine, inputs, most))
        self.assertEqual(len(rows), 40)

    def test_what_is_right_both_ways_has_an_equal_sheet(self):
        right = 0
        rows = portable_cases(603, 30)
        for (told, thing), (_, other) in itertools.product(rows, rows[:6]):
            try:
                ways = [right_program(told, *pair)[0] for pair in ((thing, other), (other, thing))]
                if ways == ["right", "right"]:
                    self.assertEqual(sheet(told, thing), sheet(told, other))
                    right += 1
            except TooMany:
                continue
        self.assertGreater(right, 10)

    def test_no_experiment_parts_a_steady_program_from_itself(self):
        """What one maker shows of it every other one does."""
        maker = Maker(604)
        for told, thing in portable_cases(605, 30):
            records = []
            for one, inputs in some_runs(maker, told, thing, 3):
                records.append((thing, inputs, run(told, thing, one, inputs, maker.some((1, 3, 30)))))
            for other in (below(told)[:1] + below(told)[-1:]) if len(told[3][1]) < 4 else (told,):
                self.assertIsNotNone(deal(other, records))
            self.assertEqual(asks(told, thing), (graded(told),))

    def test_pinned_programs_have_no_request_to_blame(self):
        for told, thing in plain_cases(606, 15, 60):
            anew = told[:1] + tuple(("anew", pair[1]) for pair in told[1:4]) + told[4:]
            for writing in writings(told, thing)[:3]:
                whole = pinned(thing, writing)
                self.assertEqual(blamed(anew, whole, (None, None, None, told[4][1][0])), ())
                self.assertTrue(is_portable(anew, whole) or ruin(anew, whole)[0] == "ruined")

    def test_what_a_contract_keeps_from_ruin_no_freed_row_has(self):
        kept = 0
        for told, thing in linked.cases(607, 40):
            if is_kept(told, thing, weakest_contract(told, thing)):
                kept += 1
                self.assertEqual(ruin(told, thing)[0], "safe")
                for row in ((), (0,), (1, 0), (3, 2, 1)):
                    self.assertEqual(freed(told, thing, row)[0], "kept")
        self.assertGreater(kept, 8)

    def test_friendly_makers_are_makers(self):
        maker = Maker(608)
        kept = 0
        for told, thing, barred in games.cases(609, 60):
            found = keeping(told, thing, barred)
            if found[0] == "kept":
                for _ in range(2):
                    inputs = [maker.some(range(8)) for _ in range(maker.some((0, 1, 2)))]
                    showing = played(told, thing, found[1], found[2], inputs, 9)
                    self.assertEqual(comes(told, thing, showing)[0], "comes", (told, thing, showing))
                    kept += 1
            word, blind = blind_keeping(told, thing, barred)
            if word == "blind":
                showing = run(told, thing, blind, [0, 1], 9)
                self.assertEqual(comes(told, thing, showing)[0], "comes")
        self.assertGreater(kept, 40)

    def test_pieces_that_are_right_anywhere_are_right_wherever_texts_let_them_be_put(self):
        told = document(("anew", BOTH), fill=("run", (0, 1)), width=("run", (1, 2)))
        pairs = [(("plus", name("x"), ONE), ("plus", ONE, name("x"))), (BIT, then(set_to("y", ZERO), ONE, ZERO)),
                 (then(ONE, name("x")), name("x")), (("minus", name("x"), name("x")), ZERO), (then(show(ONE), ZERO), then(show(ONE), ONE, ZERO))]
        writer = Writer(610)
        put_in = 0
        for old, new in pairs:
            if right_anywhere(told, old, new)[0] != "right":
                continue
            for body in (show(old), then(set_to("x", ASK), show(old), old), ("if", old, show(old), ONE), ("while", ASK, then(old, show(name("x")))),
                         ("plus", show(old), show(ZERO)), ("each", "x", 0, 1, then(show(ONE), old))):
                thing = program(body, ("x", "y"), (("p", old),))
                for part, path, node in all_nodes(thing):
                    if node != old:
                        continue
                    text = put(writer.text(thing), part, path, writer.rows_of(new))
                    other = read(text)
                    if new[0] == "then" and is_alone(thing, part, path):
                        self.assertIn("group", text.split())
                    self.assertEqual(right_program(told, thing, other)[0], "right", (thing, other))
                    put_in += 1
        self.assertGreater(put_in, 20)

    def test_scopes_and_texts_tell_one_thing(self):
        """[2] (a) and (c): what a text tells is so wherever its columns stand; what is under is within."""
        writer = Writer(611)
        for told, thing in telling_cases(612, 25, 60, choices_at_most=8):
            for one in (told, thing):
                self.assertEqual(read(writer.text(one)), one)
                self.assertEqual(read(text_of(one)), one)
            other = document(("anew", BOTH), ("anew", ("up", "down")), ("anew", told[3][1]), told[4], told[5])
            self.assertTrue(is_under(told, other))
            self.assertTrue(is_inside(told, other, 3) or told[4][0] != other[4][0])
            for kind in ("order", "walk", "fill"):
                self.assertEqual(len(places(read(text_of(thing)), kind)), len(places(thing, kind)))

    def test_texts_that_break_off_are_no_programs(self):
        for thing in (program(ONE), program(then(ONE, BIT), ("y",))):
            text = text_of(thing)
            for at in range(len(text.rstrip())):
                try:
                    self.assertNotEqual(read(text[:at]), None)
                except BadText as error:
                    self.assertIsNotNone(error.wanted)


if __name__ == "__main__":
    unittest.main()
