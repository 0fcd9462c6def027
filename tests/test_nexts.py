"""Point [35]: events_of."""

import unittest

from anymaker.choices import choices
from anymaker.nexts import events_of
from anymaker.stepping import standings
from tests import model
from tests.samples import ASK, document, name, number, program, put, show, small_cases, then

ONE = number(1)


def model_events(document, program, choice, standing):
    lot = model.closed(document, program, choice, [standing])
    ends = model.ends_of(document, program, choice, lot)
    told = [model.moves(document, program, choice, one) for one in lot]
    events = {event for move in told for event, _ in model.eventful(move) if event[0] == "shown"}
    asked = [("asked", 0)] if "waits" in ends else []
    return tuple([end for end in ("ends", "never", "ruined") if end in ends] + asked + sorted(events))


class NextsTest(unittest.TestCase):
    def first(self, body, told, choice):
        thing = program(body, ("x", "y"))
        return events_of(told, thing, choice, standings(told, thing, choice)[0])

    def test_one_by_one(self):
        told, choice = document(), ("left", "up", 0, 1)
        for body, found in ((ONE, ("ends",)), (ASK, (("asked", 0),)), (show(ONE), (("shown", 1),)),
                            (("over", ONE, name("x")), ("ruined",)), (("while", ONE, ONE), ("never",)),
                            (("while", ONE, show(ONE)), (("shown", 1),))):
            self.assertEqual(self.first(body, told, choice), found)

    def test_whatever_is_chosen(self):
        told = document(order=("anew", ("left", "right")), fill=("anew", (0, 1, "none")), width=("run", (2,)))
        way = then(("plus", put("y", number(0)), put("y", number(1))), name("y"))
        body = ("if", way, ("if", way, show(number(3)), show(ONE)), ("if", way, ASK, name("x")))
        self.assertEqual(self.first(body, told, (None, "up", None, 2)),
                         ("ends", "ruined", ("asked", 0), ("shown", 1), ("shown", 3)))

    def test_never_is_what_can_be_gone_on_for_ever(self):
        told = document(fill=("anew", (0, 1)))
        body = then(("while", name("x"), ONE), show(ONE))
        self.assertEqual(self.first(body, told, ("left", "up", None, 1)), ("never", ("shown", 1)))
        self.assertEqual(self.first(then(show(ONE), ("while", ONE, ONE)), told, ("left", "up", None, 1)), (("shown", 1),))

    def test_many(self):
        found = set()
        for told, thing in small_cases(13, 60, 100):
            for choice in choices(told, thing)[:3]:
                for standing in standings(told, thing, choice)[:12]:
                    events = events_of(document=told, program=thing, choice=choice, standing=standing)
                    self.assertEqual(events, model_events(told, thing, choice, standing))
                    found.update(events)
        self.assertLessEqual({"ends", "never", "ruined", ("asked", 0)}, found)

    def test_standings_that_do_not_come(self):
        told, choice = document(), ("left", "up", 0, 1)
        thing = program(ONE, ("x",), (("p", show(ONE)),))
        self.assertEqual(events_of(told, thing, choice, (then(ONE, ("call", "p")), (None,))), (("shown", 1),))


if __name__ == "__main__":
    unittest.main()
