"""Point [40]: lot_behind."""

import unittest

from anymaker.choices import choices
from anymaker.lots import lot_behind
from anymaker.makers import maker_of
from anymaker.runs import run
from anymaker.stepping import standings
from tests import model
from tests.samples import ASK, document, name, number, program, put, show, small_cases, then

ONE = number(1)
CHOICE = ("left", "up", 0, 1)


class LotTest(unittest.TestCase):
    def test_by_hand(self):
        thing = program(then(show(ONE), ASK))
        every = standings(document(), thing, CHOICE)
        self.assertEqual(lot_behind(document(), thing, CHOICE, ()), every[:1])
        self.assertEqual(lot_behind(document(), thing, CHOICE, (("shown", 1),)), every[1:3])
        self.assertEqual(lot_behind(document(), thing, CHOICE, (("shown", 1), ("asked", 3))),
                         ((number(1), (None,)),))
        self.assertEqual(lot_behind(document(), thing, CHOICE, (("shown", 1), ("asked", 2))),
                         ((number(0), (None,)),))

    def test_events_that_do_not_come(self):
        thing = program(then(show(ONE), ASK))
        for events in ((("shown", 0),), (("asked", 1),), (("shown", 1), ("shown", 1)), (("shown", 7),),
                       (("shown", 1), ("asked", 1), ("asked", 1))):
            self.assertEqual(lot_behind(document(), thing, CHOICE, events), ())

    def test_all_answers_lead_there(self):
        told = document(order=("anew", ("left", "right")), width=("run", (2,)))
        thing = program(show(("plus", put("x", ONE), name("x"))))
        lot = lot_behind(document=told, program=thing, choice=(None, "up", 0, 2), events=())
        self.assertEqual(lot, standings(told, thing, (None, "up", 0, 2))[:9])

    def test_many(self):
        for told, thing in small_cases(21, 50, 60):
            rows = choices(told, thing)
            seen = {events for events, _ in model.showings(told, thing, rows, 2)}
            for choice in rows[:3]:
                order = standings(told, thing, choice)
                for events in sorted(seen)[:8]:
                    lot = model.lot_behind(told, thing, choice, events)
                    self.assertEqual(lot_behind(told, thing, choice, events), tuple(one for one in order if one in lot))

    def test_where_runs_stand(self):
        """Each run's standings are in the lots behind its events."""
        for told, thing in small_cases(22, 30, 60):
            for choice in choices(told, thing)[:2]:
                made = maker_of(told, thing, choice, [])
                events, _ = run(told, thing, made, [1, 0], 3)
                self.assertTrue(lot_behind(told, thing, choice, events))


if __name__ == "__main__":
    unittest.main()
