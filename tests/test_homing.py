"""Point [142]: makers whose runs come home within so many asks, or inputs by which all runs roam."""

import unittest

from anymaker.choices import choices
from anymaker.errors import BadMost
from anymaker.homing import fewest_asks, homing, is_homing
from anymaker.keeping import keeping
from anymaker.playing import played
from tests import games
from tests.games import EXAMPLE, SEEN, Plain, cases, home_asks, model_is_homing
from tests.nearly import STRANGE
from tests.samples import ASK, Maker, document, name, number, program, put, show, then
from tests.test_keeping import near_tables

ONE = number(1)
ZERO = number(0)
BOTH = ("left", "right")
MOSTS = (0, 1, 2, 3, 7, 30, None)


class HomingTest(unittest.TestCase):
    def test_example(self):
        for most, word in ((0, "roams"), (1, "home"), (2, "home"), (30, "home"), (None, "home")):
            found = homing(document=EXAMPLE, program=SEEN, barred=(), most=most)
            self.assertEqual(found[0], word, most)
            self.assertTrue(is_homing(document=EXAMPLE, program=SEEN, barred=(), most=most, thing=found))
        self.assertEqual(fewest_asks(document=EXAMPLE, program=SEEN, barred=()), 1)
        self.assertEqual(fewest_asks(EXAMPLE, SEEN, tuple(range(8))), 1)

    def test_how_many_asks(self):
        two = program(then(ASK, ("if", ASK, ASK, ONE)))
        for barred in ((), (0,)):
            self.assertEqual(fewest_asks(document(), two, barred), 3)
        self.assertEqual(fewest_asks(document(), program(ONE), ()), 0)
        self.assertEqual(fewest_asks(document(), program(("while", ASK, ZERO)), ()), None)
        self.assertEqual(fewest_asks(document(), program(("while", ONE, ZERO)), ()), None)
        self.assertEqual(fewest_asks(document(), program(("over", ONE, ASK)), ()), None)
        self.assertEqual(fewest_asks(document(), program(show(ASK)), (1,)), None)
        self.assertEqual(fewest_asks(document(), program(show(ONE)), (0,)), 0)

    def test_more_than_30_asks(self):
        """The least number, however great; within 30 it is not come home then."""
        body = ("each", "x", 0, 6, then(*[ASK] * 5), "up")
        thing = program(then(body))
        told = document(width=("run", (3,)))
        self.assertEqual(fewest_asks(told, thing, ()), 35)
        self.assertEqual([homing(told, thing, (), most)[0] for most in (0, 29, 30, None)], ["roams", "roams", "roams", "home"])
        for most in (3, 30):
            self.assertTrue(is_homing(told, thing, (), most, homing(told, thing, (), most)))

    def test_makers_choose_the_nearer_way(self):
        told = document(fill=("anew", (1, 0)[::-1]))
        thing = program(("if", name("x"), then(ASK, ASK), ("if", name("x"), ASK, then(ASK, ASK, ASK))))
        self.assertEqual(fewest_asks(told, thing, ()), 1)
        fixed = document(fill=("run", (0, 1)))
        self.assertEqual(fewest_asks(fixed, thing, ()), 2)
        self.assertEqual(homing(fixed, thing, (), 2)[1], ("left", "up", 1, 1))
        self.assertEqual(homing(fixed, thing, (), 3)[1], ("left", "up", 0, 1))
        self.assertEqual(homing(fixed, thing, (), 1)[0], "roams")

    def test_rounds_without_asks_do_not_come_home(self):
        """With as many asks the steps have to be fewer."""
        told = document(fill=("anew", (0, 1)))
        thing = program(("while", name("x"), ZERO))
        found = homing(told, thing, (), 0)
        self.assertEqual(found[0], "home")
        table = {at: (1 if triple[0] is not None else None,) + triple[1:] for at, triple in found[2].items()}
        self.assertFalse(is_homing(told, thing, (), 0, ("home", found[1], table)))
        ever = document(fill=("anew", (1,)))
        self.assertEqual([homing(ever, thing, (), most)[0] for most in MOSTS], ["roams"] * 7)

    def test_many(self):
        """HEART of [142], and what fewest_asks tells."""
        counted = {}
        for told, thing, barred in cases(311, 110):
            rows = games.plains(told, thing, barred)
            homes = [home_asks(plain).get(0) for plain in rows]
            fewest = min([asks for asks in homes if asks is not None], default=None)
            self.assertEqual(fewest_asks(told, thing, barred), fewest, (told, thing, barred))
            for most in MOSTS:
                found = homing(told, thing, barred, most)
                fine = [plain.choice for plain, asks in zip(rows, homes) if asks is not None and (most is None or asks <= most)]
                self.assertEqual(found[0], "home" if fine else "roams", (told, thing, barred, most))
                if fine:
                    self.assertEqual(found[1], fine[0])
                self.assertTrue(is_homing(told, thing, barred, most, found))
                self.assertTrue(model_is_homing(told, thing, barred, most, found), (told, thing, barred, most))
            counted[fewest] = counted.get(fewest, 0) + 1
        self.assertGreaterEqual(len(counted), 4)

    def test_runs_come_home(self):
        """By the options of a homing table a run ends within the asks; all homing tables keep."""
        maker = Maker(312)
        home = 0
        for told, thing, barred in cases(313, 80):
            fewest = fewest_asks(told, thing, barred)
            found = homing(told, thing, barred, None)
            self.assertEqual(found[0] == "home", fewest is not None)
            if fewest is None:
                continue
            home += 1
            self.assertEqual(keeping(told, thing, barred)[0], "kept")
            if fewest <= 30:
                found = homing(told, thing, barred, fewest)
            options = {at: triple[0] for at, triple in found[2].items()}
            for _ in range(4):
                inputs = [maker.some(range(8)) for _ in range(fewest)]
                events, end = played(told, thing, found[1], options, inputs, 200)
                self.assertEqual(end, "ends")
                self.assertFalse([event for event in events if event[0] == "shown" and event[1] in barred])
        self.assertGreater(home, 25)

    def test_runs_roam(self):
        """FACT of [146]: each maker has inputs by which it asks once more, or does not come home."""
        maker = Maker(314)
        roamed = 0
        for told, thing, barred in cases(315, 90):
            fewest = fewest_asks(told, thing, barred)
            most = 3 if fewest is None else fewest - 1
            if not 0 <= most <= 30:
                continue
            roamed += 1
            _, tables = homing(told, thing, barred, most)
            for choice, table in zip(choices(told, thing), tables):
                for _ in range(3):
                    self.assertTrue(self.roams(maker, Plain(told, thing, choice, barred), table, most))
        self.assertGreater(roamed, 40)

    def roams(self, maker, plain, table, most):
        at, left = 0, most
        for _ in range(300):
            self.assertFalse(plain.is_over(at))
            if plain.spoils(at) or plain.asks(at) and left == 0:
                return True
            options = plain.options(at)
            if plain.asks(at):
                at, left = plain.at[plain.moves[at][1][table[(at, left)]]], left - 1
            elif options is None:
                at = plain.nexts(at)[0]
            elif not options:
                return True
            else:
                at = maker.some(list(options.values()))
        return True

    def test_more_options_and_wider_scopes_come_home(self):
        """FACTS of [146]."""
        home = 0
        for told, thing, barred in cases(316, 60, 60, ("run", "ever", "anew")):
            fewest = fewest_asks(told, thing, barred)
            if fewest is None:
                continue
            home += 1
            others = [told[:at] + (("anew", told[at][1]),) + told[at + 1:] for at in (1, 2, 3)] + [told[:5] + ("whole",)]
            others.append(told[:1] + (("anew", BOTH), ("anew", ("up", "down"))) + told[3:])
            for other in others:
                self.assertLessEqual(fewest_asks(other, thing, barred), fewest)
        self.assertGreater(home, 15)

    def test_nearly(self):
        checked = {True: 0, False: 0}
        for told, thing, barred in cases(317, 12, 30) + [(EXAMPLE, SEEN, ())]:
            for most in (0, 1, None):
                found = homing(told, thing, barred, most)
                for other in near_tables(found):
                    fine = model_is_homing(told, thing, barred, most, other)
                    self.assertIs(is_homing(told, thing, barred, most, other), fine, (told, thing, barred, most, other))
                    checked[fine] += 1
        self.assertGreater(min(checked.values()), 60)
        for other in STRANGE + (("home",), ("roams", None), ("home", None, {})):
            self.assertIs(is_homing(EXAMPLE, SEEN, (), 1, other), False)

    def test_greater_numbers_are_let(self):
        found = homing(EXAMPLE, SEEN, (), 1)
        table = {at: (option, asks, steps * 3 + 7) for at, (option, asks, steps) in found[2].items()}
        self.assertTrue(is_homing(EXAMPLE, SEEN, (), 1, ("home", found[1], table)))
        more = {at: (option, asks + 4, steps) for at, (option, asks, steps) in found[2].items()}
        for most, fine in ((1, False), (4, False), (5, True), (None, True)):
            self.assertIs(is_homing(EXAMPLE, SEEN, (), most, ("home", found[1], more)), fine)

    def test_asks_need_fewer_asks_behind_them(self):
        thing = program(then(ASK, ONE))
        plain = Plain(document(), thing, choices(document(), thing)[0], ())
        many = len(plain.moves)
        for asks, fine in ((1, True), (0, False)):
            table = {at: (None, asks if at == 0 else 0, many - at) for at in range(many)}
            self.assertIs(is_homing(document(), thing, (), None, ("home", plain.choice, table)), fine)
            self.assertIs(model_is_homing(document(), thing, (), None, ("home", plain.choice, table)), fine)

    def test_steps_that_spoil_are_not_home(self):
        for thing, barred in ((program(show(ONE)), (1,)), (program(("over", ONE, ZERO, "left")), ()), (program(then(show(ZERO), show(ONE))), (0,))):
            choice = choices(document(), thing)[0]
            many = len(Plain(document(), thing, choice, barred).moves)
            table = {at: (None, 0, many - at) for at in range(many)}
            self.assertIs(is_homing(document(), thing, barred, 3, ("home", choice, table)), False)
            self.assertIs(is_homing(document(), program(show(ONE)), (0,), 3, ("home", choice, {0: (None, 0, 1), 1: (None, 0, 0)})), True)

    def test_wrong_mosts(self):
        for most in (-1, 31, True, "1", (), [1]):
            for call in (lambda: homing(document(), program(ONE), (), most), lambda: is_homing(document(), program(ONE), (), most, None)):
                with self.assertRaises(BadMost):
                    call()

    def test_the_end_is_home(self):
        thing = program(put("x", ONE))
        found = homing(document(), thing, (), 0)
        self.assertEqual((found[0], found[2][0][:2]), ("home", (None, 0)))
        self.assertEqual(homing(document(), program(ASK), (), 0)[1], ({(0, 0): None},))


if __name__ == "__main__":
    unittest.main()
