"""Points [40], [41], [46]: showings that come, and chains that keep others away."""

import unittest

from anymaker.choices import choices
from anymaker.comings import comes, is_coming
from anymaker.makers import is_maker
from anymaker.runs import run
from tests import model
from tests.nearly import STRANGE, nearly, same_with_kinds
from tests.samples import ASK, Maker, document, name, number, program, put, show, small_cases, then

ONE = number(1)
ENDS = ("more", "ends", "waits", "never", "ruined")


def model_is_standing(document, program, choice, thing):
    """Judged by what moves takes."""
    from anymaker.errors import BadStanding
    from anymaker.stepping import moves
    try:
        moves(document, program, choice, thing)
    except BadStanding:
        return False
    return True


def model_is_coming(document, program, showing, thing):
    """By the words of [41]."""
    if type(thing) is not tuple or not thing:
        return False
    if type(thing[0]) is str and thing[0] == "comes" and len(thing) == 3:
        if not is_maker(document, program, thing[1]) or not isinstance(thing[2], (list, tuple)):
            return False
        if not all(type(one) is int and 0 <= one <= 7 for one in thing[2]):
            return False
        return run(document, program, thing[1], thing[2], len(showing[0])) == showing
    if type(thing[0]) is not str or thing[0] != "not" or len(thing) != 2:
        return False
    rows = choices(document, program)
    if type(thing[1]) is not tuple or len(thing[1]) != len(rows):
        return False
    return all(model_is_chain(document, program, choice, showing, chain) for choice, chain in zip(rows, thing[1]))


def model_is_chain(document, program, choice, showing, chain):
    events, end = showing
    if type(chain) is not tuple or len(chain) != len(events) + 1:
        return False
    for lot in chain:
        if type(lot) is not tuple or not all(model_is_standing(document, program, choice, one) for one in lot):
            return False
        if any(lot.count(one) > 1 for one in lot):
            return False
    if model.first(program) not in chain[0]:
        return False
    for at, lot in enumerate(chain):
        for standing in lot:
            move = model.moves(document, program, choice, standing)
            if any(one not in lot for one in model.silent(move)):
                return False
            if at < len(events):
                if any(one not in chain[at + 1] for event, one in model.eventful(move) if event == events[at]):
                    return False
    return end not in model.ends_of(document, program, choice, list(chain[-1]))


class ComingTest(unittest.TestCase):
    def both(self, told, thing, showing):
        found = comes(told, thing, showing)
        self.assertTrue(is_coming(told, thing, showing, found), (told, thing, showing))
        if found[0] == "comes":
            self.assertEqual(run(told, thing, found[1], found[2], len(showing[0])), showing)
        return found[0] == "comes"

    def test_each_end(self):
        told = document(fill=("run", (0, "none")))
        for body, end in ((ONE, "ends"), (ASK, "waits"), (("while", ONE, ONE), "never"), (name("x"), "ruined"),
                          (show(ONE), "more"), (ASK, "more")):
            self.assertTrue(self.both(told, program(body), ((), end)))
        for body, end in ((ONE, "waits"), (ASK, "ends"), (("while", ONE, ONE), "ends"), (name("y"), "never"),
                          (ONE, "more"), (show(ONE), "ends"), (ONE, "ruined"), (ONE, "never")):
            self.assertFalse(self.both(told, program(body, ("x", "y")), ((), end)))

    def test_events_that_cannot_come(self):
        for events in ((("shown", 0),), (("asked", 0),), (("shown", 1), ("shown", 1)), (("shown", 7),)):
            for end in ENDS:
                self.assertFalse(self.both(document(), program(show(ONE)), (events, end)))

    def test_inputs_are_told_by_the_events(self):
        thing = program(then(show(ASK), show(ASK)))
        for end, inputs in (("waits", (3,)), ("more", (3, 0))):
            found = comes(document=document(), program=thing, showing=((("asked", 3), ("shown", 1)), end))
            self.assertEqual(tuple(found[2]), inputs)

    def test_a_run_that_never_ends_by_answers(self):
        told = document(("anew", ("left", "right")), fill=("anew", (0, 1, "none")))
        thing = program(then(("while", ("same", name("x"), name("x")), ONE), show(ONE)))
        for end in ("never", "more", "ruined"):
            self.assertTrue(self.both(told, thing, ((), end)))
        self.assertFalse(self.both(told, thing, ((), "ends")))

    def test_rounds_by_options_that_are_not_the_first(self):
        told = document(("anew", ("left", "right")), fill=("anew", (0, 1)))
        bit = then(("plus", put("y", number(0)), put("y", ONE)), name("y"))
        for body in (("while", name("x"), ONE), then(name("x"), ("while", name("x"), name("x"))),
                     ("while", ("same", bit, number(0), "left"), number(0)),
                     then(bit, ("while", ("plus", name("x"), ("same", bit, number(0), "left"), "left"), ONE))):
            thing = program(body, ("x", "y"))
            self.assertTrue(self.both(told, thing, ((), "never")))
            self.assertTrue(self.both(told, thing, ((), "ends")))
            shown = program(then(name("x"), bit, show(ONE), body), ("x", "y"))
            self.assertTrue(self.both(told, shown, ((("shown", 1),), "never")))
            self.assertTrue(self.both(told, shown, ((("shown", 1),), "ends")))

    def test_many_against_all_showings(self):
        found = set()
        for told, thing in small_cases(23, 40, 50):
            every = model.showings(told, thing, choices(told, thing), 2)
            near = {(events, end) for events, _ in every for end in ENDS} | {((("shown", 1),), end) for end in ENDS}
            for showing in sorted(near | every)[:40]:
                comes_at_all = self.both(told, thing, showing)
                self.assertEqual(comes_at_all, showing in every)
                found.add((comes_at_all, showing[1]))
        self.assertEqual(len(found), 10)

    def test_the_chains_are_one_for_each_choice(self):
        told = document(order=("run", ("left", "right")), width=("run", (1, 2)))
        found = comes(told, program(show(ONE)), ((("shown", 0),), "ends"))
        self.assertEqual(found[0], "not")
        self.assertEqual(len(found[1]), 4)
        self.assertTrue(all(len(chain) == 2 for chain in found[1]))


class IsComingTest(unittest.TestCase):
    def test_nearly_right(self):
        checked = {True: 0, False: 0}
        for told, thing in small_cases(24, 8, 12, depth=2, names=("x",)):
            every = sorted(model.showings(told, thing, choices(told, thing), 1))
            for showing in every[:2] + [(events, end) for events, _ in every[:1] for end in ENDS]:
                found = comes(told, thing, showing)
                for other in nearly(found):
                    expected = model_is_coming(told, thing, showing, other)
                    self.assertIs(is_coming(told, thing, showing, other), expected, (told, thing, showing, other))
                    checked[expected] += 1
        self.assertGreater(min(checked.values()), 20)

    def test_both_words(self):
        thing = program(show(ASK))
        coming, away = (((("asked", 2), ("shown", 0)), "ends"), ((("asked", 2), ("shown", 1)), "ends"))
        self.assertTrue(is_coming(document(), thing, coming, comes(document(), thing, coming)))
        self.assertFalse(is_coming(document(), thing, away, comes(document(), thing, coming)))
        self.assertFalse(is_coming(document(), thing, coming, comes(document(), thing, away)))
        for other in STRANGE:
            self.assertIs(is_coming(document=document(), program=thing, showing=coming, thing=other), False)

    def test_lists_of_inputs_are_taken_and_lists_of_lots_are_not(self):
        thing = program(show(ASK))
        coming = ((("asked", 2), ("shown", 0)), "ends")
        word, maker, inputs = comes(document(), thing, coming)
        self.assertTrue(is_coming(document(), thing, coming, (word, maker, list(inputs))))
        self.assertFalse(is_coming(document(), thing, coming, [word, maker, inputs]))
        away = ((("asked", 2),), "ruined")
        word, chains = comes(document(), thing, away)
        self.assertFalse(is_coming(document(), thing, away, (word, (list(chains[0]),))))
        self.assertFalse(is_coming(document(), thing, away, (word, (tuple(list(lot) for lot in chains[0]),))))

    def test_wrong_inputs(self):
        thing = program(ASK)
        for showing, good in ((((("asked", 1),), "ends"), (1,)), (((), "waits"), ())):
            word, maker, inputs = comes(document(), thing, showing)
            self.assertEqual(tuple(inputs), good)
            for bad in ((8,), (-1,), (True,), ("1",), (None,)):
                for other in (good[:0] + bad, good + bad, list(good) + list(bad)):
                    self.assertIs(is_coming(document(), thing, showing, (word, maker, other)), False)
            for bad in (None, 1, "1", {1: 1}, {1}):
                self.assertIs(is_coming(document(), thing, showing, (word, maker, bad)), False)
        more = (word, maker, good + (3,))
        self.assertFalse(is_coming(document(), thing, ((), "waits"), more))
        self.assertTrue(is_coming(document(), thing, ((("asked", 3),), "ends"), more))

    def test_lots_may_stand_in_any_sequence_and_have_more(self):
        thing = program(then(show(ONE), ONE))
        away = ((("shown", 1),), "waits")
        (word, (chain,)) = comes(document(), thing, away)
        turned = tuple(lot[::-1] for lot in chain)
        self.assertTrue(is_coming(document(), thing, away, (word, (turned,))))
        more = (chain[0] + ((number(3), (0,)),), chain[1] + ((number(3), (1,)),))
        self.assertTrue(is_coming(document(), thing, away, (word, (more,))))
        waiting = (chain[0] + ((ASK, (None,)),), chain[1])
        self.assertTrue(is_coming(document(), thing, away, (word, (waiting,))))
        last = (chain[0], chain[1] + ((ASK, (None,)),))
        self.assertFalse(is_coming(document(), thing, away, (word, (last,))))
        open_one = (chain[0] + ((then(ONE, ASK), (None,)),), chain[1])
        self.assertFalse(is_coming(document(), thing, away, (word, (open_one,))))

    def test_silent_rounds_in_the_last_lot(self):
        loop = ("while", ONE, number(0))
        rest = ("if", ONE, then(number(0), loop), number(0))
        ring = tuple((one, (None,)) for one in (loop, rest, then(number(0), loop)))
        thing = program(show(ONE))
        away = ((("shown", 1),), "never")
        (word, (chain,)) = comes(document(), thing, away)
        self.assertTrue(is_coming(document(), thing, away, (word, ((chain[0] + ring, chain[1]),))))
        self.assertFalse(is_coming(document(), thing, away, (word, ((chain[0], chain[1] + ring),))))


class FactTest(unittest.TestCase):
    def test_wider_scopes_keep_what_comes(self):
        """Point [46]."""
        maker = Maker(25)
        for told, thing in small_cases(26, 25, 30, depth=2):
            at = maker.some((1, 2, 3))
            rows = []
            for scope in ("ever", "program", "run", "part", "place", "anew"):
                wide = told[:at] + ((scope, told[at][1]),) + told[at + 1:]
                rows.append(model.showings(wide, thing, choices(wide, thing), 2))
            self.assertEqual(rows[0], rows[1])
            self.assertEqual(rows[1], rows[2])
            for less, more in zip(rows[2:], rows[3:]):
                self.assertLessEqual(less, more)
            for showing in sorted(rows[2])[:5]:
                wide = told[:at] + (("anew", told[at][1]),) + told[at + 1:]
                self.assertEqual(comes(wide, thing, showing)[0], "comes")

    def test_what_no_run_meets_twice_is_anew_as_by_place(self):
        body = show(("plus", ("plus", put("x", ONE), name("x")), ("minus", name("x"), put("x", ONE))))
        rows = []
        for scope in ("place", "anew"):
            told = document(order=(scope, ("left", "right")), width=("run", (3,)))
            rows.append(model.showings(told, program(body), choices(told, program(body)), 2))
        self.assertEqual(*rows)


if __name__ == "__main__":
    unittest.main()
