"""Points [140], [141], [143], [146], [147]: makers that keep their runs, inputs that spoil them, runs that are played."""

import unittest

from anymaker.choices import choices
from anymaker.homing import fewest_asks
from anymaker.errors import BadBarred, BadOptions, NotTold
from anymaker.keeping import is_keeping, keeping
from anymaker.makers import maker_of
from anymaker.playing import played
from anymaker.runs import run
from anymaker.stepping import standings
from tests import games
from tests.games import EXAMPLE, KINDS, SEEN, Plain, cases, kept_set, model_is_keeping
from tests.nearly import STRANGE, nearly
from tests.samples import ASK, BIT, Maker, document, name, number, program, put, show, then

ONE = number(1)
ZERO = number(0)
BOTH = ("left", "right")


def near_tables(told):
    """Values that are unlike in one part, in the dicts of the tables as well."""
    word, *rest = told
    yield from nearly((word,) + tuple(() for _ in rest))
    tables = [rest[-1]] if isinstance(rest[-1], dict) else list(rest[-1])

    def with_table(at, table):
        if isinstance(rest[-1], dict):
            return (word, *rest[:-1], table)
        return (word, *rest[:-1], tuple(tables[:at] + [table] + tables[at + 1:]))
    for at, table in enumerate(tables):
        for key, value in list(table.items())[::1 + len(table) // 7]:
            fewer = {one: other for one, other in table.items() if one != key}
            yield with_table(at, fewer)
            for other in nearly(value):
                yield with_table(at, {**table, key: other})
            for other in nearly(key):
                if not isinstance(other, list):
                    yield with_table(at, {**fewer, other: value})
        yield with_table(at, dict(reversed(table.items())))
        yield with_table(at, list(table.items()))
        yield with_table(at, None)
    if len(tables) > 1:
        yield (word, *rest[:-1], tuple(tables[::-1]))
        yield (word, *rest[:-1], tuple(tables[:-1]))
        yield (word, *rest[:-1], tables)
    for first in ("kept", "spoilt", "home", "roams"):
        yield (first, *rest)
    yield told + (1,)
    yield told[:-1]
    yield list(told)


class KeepingTest(unittest.TestCase):
    def test_example(self):
        """[147]: left just where x is 1."""
        word, choice, table = keeping(document=EXAMPLE, program=SEEN, barred=())
        self.assertEqual((word, choice), ("kept", (None, "up", 0, 1)))
        plain = Plain(EXAMPLE, SEEN, choice, ())
        sums = {}
        for number_, (_, memory) in enumerate(standings(EXAMPLE, SEEN, choice)):
            if plain.moves[number_][0] == "chooses" and plain.moves[number_][2] == ("body", (2, 1)):
                sums[memory[0]] = table[number_]
        self.assertEqual(sums, {1: "left", 0: "right"})
        self.assertEqual(fewest_asks(EXAMPLE, SEEN, ()), 1)
        for given in range(8):
            self.assertEqual(played(EXAMPLE, SEEN, choice, table, [given], 9), ((("asked", given),), "ends"))

    def test_nothing_and_all_barred(self):
        thing = program(show(ASK))
        for barred, kept in (((), True), ((0,), False), ((2,), True), ((1, 3), False), (tuple(range(8)), False), ((2, 3, 4, 5, 6, 7), True)):
            found = keeping(document(), thing, barred)
            self.assertEqual(found[0] == "kept", kept, barred)
            self.assertTrue(is_keeping(document=document(), program=thing, barred=barred, thing=found))
        self.assertEqual(keeping(document(), program(ASK), tuple(range(8)))[0], "kept")
        wide = document(width=("run", (2,)))
        word, tables = keeping(wide, thing, (2,))
        self.assertEqual((word, tables[0][0][0]), ("spoilt", 2))

    def test_runs_that_never_end_are_kept(self):
        self.assertEqual(keeping(document(), program(("while", ONE, ZERO)), ())[0], "kept")
        self.assertEqual(keeping(document(), program(("while", ONE, show(ASK))), ())[0], "kept")
        self.assertEqual(keeping(document(), program(("while", ONE, show(ASK))), (0,))[0], "spoilt")
        self.assertEqual(keeping(document(), program(("while", ASK, ("over", ONE, ASK))), ())[0], "spoilt")

    def test_the_first_choice_that_keeps(self):
        told = document(("run", BOTH), fill=("run", (0, 1, 2)), width=("run", (2,)))
        thing = program(("over", ONE, ("less", ONE, name("x"))))
        self.assertEqual(keeping(told, thing, ())[:2], ("kept", ("left", "up", 2, 2)))
        both = program(then(("over", ONE, BIT, "left"), ("over", ONE, ("less", ONE, name("x")), "left")), ("x", "y"))
        self.assertEqual(keeping(told, both, ())[1], ("left", "up", 2, 2))
        self.assertEqual(keeping(told, program(("over", ONE, ("same", BIT, ZERO, "left"), "left"), ("x", "y")), ())[1], ("right", "up", 0, 2))
        found = keeping(told, program(("over", ONE, ZERO)), ())
        self.assertEqual((found[0], len(found[1])), ("spoilt", 6))

    def test_options_too(self):
        """An option that ruins is not taken; where all do, the run is spoilt."""
        thing = program(show(name("x")))
        for fills, barred, kept in (((0, "none"), (), True), (("none",), (), False), ((0, "none"), (0,), False), ((0, 1, "none"), (0,), True)):
            told = document(fill=("anew", fills))
            found = keeping(told, thing, barred)
            self.assertEqual(found[0] == "kept", kept)
            self.assertTrue(model_is_keeping(told, thing, barred, found))

    def test_many(self):
        """HEART of [141]: a keeping table for the first choice that has one, or a spoiling one for each."""
        counted = {"kept": 0, "spoilt": 0}
        for told, thing, barred in cases(301, 150):
            found = keeping(told, thing, barred)
            kept = [plain.choice for plain in games.plains(told, thing, barred) if 0 in kept_set(plain)]
            self.assertEqual(found[0] == "kept", bool(kept), (told, thing, barred))
            if kept:
                self.assertEqual(found[1], kept[0])
            self.assertTrue(is_keeping(told, thing, barred, found))
            self.assertTrue(model_is_keeping(told, thing, barred, found), (told, thing, barred))
            counted[found[0]] += 1
        self.assertGreater(min(counted.values()), 40)

    def test_kept_runs_are_never_spoilt(self):
        """FACT of [143], and the runs of spoiling tables whatever is answered."""
        maker = Maker(302)
        counted = {"kept": 0, "spoilt": 0}
        for told, thing, barred in cases(303, 80):
            found = keeping(told, thing, barred)
            counted[found[0]] += 1
            for _ in range(4):
                if found[0] == "kept":
                    inputs = [maker.some(range(8)) for _ in range(6)]
                    events, end = played(told, thing, found[1], found[2], inputs, 30)
                    self.assertNotEqual(end, "ruined")
                    self.assertFalse([event for event in events if event[0] == "shown" and event[1] in barred])
                else:
                    for choice, table in zip(choices(told, thing), found[1]):
                        self.assertTrue(self.is_spoilt(maker, Plain(told, thing, choice, barred), table))
        self.assertGreater(min(counted.values()), 20)

    def is_spoilt(self, maker, plain, table):
        """Follows a spoiling table while requests are answered anyhow."""
        number_, steps = 0, 0
        while not plain.spoils(number_):
            options = plain.options(number_)
            if plain.asks(number_):
                number_ = plain.at[plain.moves[number_][1][table[number_][0]]]
            elif options is None:
                number_ = plain.nexts(number_)[0]
            elif not options or maker.random.random() < 0.1 and None in plain.moves[number_][3]:
                return True
            else:
                number_ = maker.some(list(options.values()))
            steps += 1
            if steps > table[0][1] + 1:
                return False
        return True

    def test_more_options_and_wider_scopes_keep(self):
        """FACTS of [146]."""
        kept = 0
        for told, thing, barred in cases(304, 60, 60, ("run", "ever", "anew")):
            if keeping(told, thing, barred)[0] != "kept":
                continue
            more = document(("anew", BOTH), ("anew", ("up", "down")), ("anew", tuple(sorted({0, 1} | set(told[3][1]), key=str))), told[4])
            wholes = [told[:5] + ("whole",), more]
            for at in (1, 2, 3):
                wholes.append(told[:at] + (("anew", told[at][1]),) + told[at + 1:])
            for other in wholes:
                self.assertEqual(keeping(other, thing, barred)[0], "kept", (told, other, thing))
            kept += 1
        self.assertGreater(kept, 15)
        for told, thing, barred in cases(305, 40):
            self.assertEqual(keeping(told, thing, barred)[0], keeping(told[:5] + ("whole",), thing, barred)[0])

    def test_barred_numbers(self):
        for barred in ((1, 0), (1, 1), (8,), (-1,), [1], None, 1, (True,), ("1",), (None,), {1: 1}):
            for call in (lambda: keeping(document(), program(ONE), barred), lambda: is_keeping(document(), program(ONE), barred, None)):
                with self.assertRaises(BadBarred):
                    call()

    def test_nearly(self):
        checked = {True: 0, False: 0}
        for told, thing, barred in cases(306, 22, 40) + [(EXAMPLE, SEEN, ()), (EXAMPLE, SEEN, (0,))]:
            found = keeping(told, thing, barred)
            for other in near_tables(found):
                fine = model_is_keeping(told, thing, barred, other)
                self.assertIs(is_keeping(told, thing, barred, other), fine, (told, thing, barred, other))
                checked[fine] += 1
        self.assertGreater(min(checked.values()), 60)
        for other in STRANGE + (("kept",), ("spoilt", None), ("kept", None, {})):
            self.assertIs(is_keeping(EXAMPLE, SEEN, (), other), False)

    def test_other_tables_and_choices_are_let(self):
        told = document(("run", BOTH), fill=("anew", (0, 1)))
        thing = program(show(name("x")))
        for choice in choices(told, thing):
            rows = standings(told, thing, choice)
            for option in (0, 1):
                plain = Plain(told, thing, choice, ())
                table = {at: option if plain.options(at) else None for at in range(len(rows))}
                self.assertTrue(is_keeping(told, thing, (), ("kept", choice, table)))
                self.assertEqual(is_keeping(told, thing, (1,), ("kept", choice, table)), False)
        high = keeping(told, program(("over", ONE, ZERO)), ())
        raised = tuple({at: (given, rank * 2 + 5) for at, (given, rank) in table.items()} for table in high[1])
        self.assertTrue(is_keeping(told, program(("over", ONE, ZERO)), (), ("spoilt", raised)))


class PlayedTest(unittest.TestCase):
    thing = program(then(name("x"), show(("plus", ASK, name("x"), "left"))))
    told = document(fill=("anew", (0, 1)))

    def test_ordinary(self):
        told, choice = self.told, ("left", "up", None, 1)
        rows = Plain(told, self.thing, choice, ())
        for first in (0, 1):
            options = {at: first for at in range(len(rows.moves)) if rows.options(at)}
            self.assertEqual(played(document=told, program=self.thing, choice=choice, options=options, inputs=[1], most=9),
                             ((("asked", 1), ("shown", (1 + first) % 2)), "ends"))
            self.assertEqual(played(told, self.thing, choice, options, (), 9), ((), "waits"))
            self.assertEqual(played(told, self.thing, choice, options, (1,), 0), ((), "more"))
            self.assertEqual(played(told, self.thing, choice, options, (1,), 1), ((("asked", 1),), "more"))

    def test_not_told(self):
        told, choice = self.told, ("left", "up", None, 1)
        with self.assertRaises(NotTold):
            played(told, self.thing, choice, {}, [1], 9)
        rows = Plain(told, self.thing, choice, ())
        first = next(at for at in range(len(rows.moves)) if rows.options(at))
        with self.assertRaises(NotTold):
            played(told, self.thing, choice, {first: 1}, [1], 9)
        self.assertEqual(played(told, self.thing, choice, {first: 1}, [], 9), ((), "waits"))
        self.assertEqual(played(told, self.thing, choice, {first: 1}, [1], 0), ((), "more"))
        self.assertEqual(played(told, program(ONE), choice, {}, [1], 9), ((), "ends"))

    def test_never_and_ruined(self):
        told = document(fill=("anew", (0, 1, "none")))
        choice = ("left", "up", None, 1)
        thing = program(("while", name("x"), ZERO))
        for option, end in ((0, "ends"), (1, "never"), ("none", "ruined")):
            rows = Plain(told, thing, choice, ())
            options = {at: option for at in range(len(rows.moves)) if rows.options(at)}
            self.assertEqual(played(told, thing, choice, options, [], 5), ((), end))
        endless = program(("while", ONE, show(name("x"))))
        rows = Plain(told, endless, choice, ())
        options = {at: 1 for at in range(len(rows.moves)) if rows.options(at)}
        self.assertEqual(played(told, endless, choice, options, [], 3), ((("shown", 1),) * 3, "more"))

    def test_as_runs_of_makers(self):
        """With one option for each kind it is the run of a maker that always gives it."""
        maker = Maker(307)
        for told, thing, _ in cases(308, 60):
            given = {kind: maker.some(pair[1]) for kind, pair in zip(KINDS, told[1:5])}
            for choice in choices(told, thing)[:3]:
                rows = Plain(told, thing, choice, ())
                options = {at: given[move[1]] if move[0] == "chooses" else None for at, move in enumerate(rows.moves)}
                kinds = [kind for kind, pair in zip(KINDS, told[1:5]) if pair[0] == "anew"]
                one = ("maker", choice, (tuple((given[kind], 0) for kind in kinds),))
                for inputs, most in (((), 3), ((1, 0, 5), 9), ((0,) * 6, 2)):
                    self.assertEqual(played(told, thing, choice, options, inputs, most), run(told, thing, one, inputs, most))

    def test_wrong_options(self):
        told, choice = self.told, ("left", "up", None, 1)
        rows = Plain(told, self.thing, choice, ())
        first = next(at for at in range(len(rows.moves)) if rows.options(at))
        other = next(at for at in range(len(rows.moves)) if rows.options(at) is None)
        for options in ({first: None}, {first: 2}, {first: "0"}, {first: True}, {first: "none"}, {other: 0}, {other: False}, {len(rows.moves): None},
                        {-1: None}, {True: None}, {None: None}, {(0,): None}, [(0, 1)], None, 0, ((0, 1),), {"0": None}):
            with self.assertRaises(BadOptions):
                played(told, self.thing, choice, options, [1], 9)

    def test_a_maker_that_sees(self):
        """[147]: no finite maker does what the table does; maker_of gives one for each input alone."""
        _, choice, table = keeping(EXAMPLE, SEEN, ())
        for side in BOTH:
            maker = maker_of(EXAMPLE, SEEN, choice, [side])
            ends = {run(EXAMPLE, SEEN, maker, [given], 9)[1] for given in (0, 1)}
            self.assertEqual(ends, {"ends", "ruined"})


if __name__ == "__main__":
    unittest.main()
