"""Point [51]: machines, and the least one that a program shows by first options."""

import itertools
import random
import unittest

from anymaker.choices import choices
from anymaker.machines import is_machine, least_machine, machine_of, shown_by
from anymaker.runs import run
from tests.nearly import STRANGE, nearly
from tests.samples import ASK, document, name, number, program, show, small_cases, then

ONE = number(1)
ENDS, NEVER, RUINED = ("ends",), ("never",), ("ruined",)
ECHO = ("machine", (("asks", (1, 2, 1, 2, 1, 2, 1, 2)), ("shows", 0, 3), ("shows", 1, 3), ENDS))


def first_of(document, choice):
    """The maker that gives each request the first option."""
    kinds = [pair for pair in document[1:5] if pair[0] == "anew"]
    return ("maker", choice, (tuple((pair[1][0], 0) for pair in kinds),))


def shows(machine, row, inputs, most):
    """By the words."""
    events, left = [], list(inputs)
    while True:
        now = machine[1][row]
        if now[0] in ("ends", "never", "ruined"):
            return tuple(events), now[0]
        if now[0] == "asks" and not left:
            return tuple(events), "waits"
        if len(events) == most:
            return tuple(events), "more"
        if now[0] == "asks":
            events.append(("asked", left[0]))
            row = now[1][left.pop(0)]
        else:
            events.append(("shown", now[1]))
            row = now[2]


def parted(machine):
    """Which rows have unlike showings for some inputs, by rounds over all pairs."""
    rows = machine[1]
    unlike = {(a, b) for a in range(len(rows)) for b in range(len(rows)) if rows[a][:2 if rows[a][0] == "shows" else 1]
              != rows[b][:2 if rows[b][0] == "shows" else 1]}
    more = True
    while more:
        more = False
        for a, b in itertools.product(range(len(rows)), repeat=2):
            if (a, b) not in unlike and rows[a][0] in ("shows", "asks"):
                pairs = zip(rows[a][1], rows[b][1]) if rows[a][0] == "asks" else [(rows[a][2], rows[b][2])]
                if any(pair in unlike for pair in pairs):
                    unlike.add((a, b))
                    more = True
    return unlike


def met(machine):
    found = [0]
    for at in found:
        row = machine[1][at]
        nexts = row[1] if row[0] == "asks" else row[2:]
        found += [one for one in dict.fromkeys(nexts) if one not in found]
    return found


def some_machine(seed, many):
    made = random.Random(seed)
    rows = []
    for _ in range(many):
        kind = made.choice(("ends", "never", "ruined", "shows", "shows", "shows", "asks", "asks"))
        if kind == "shows":
            rows.append((kind, made.choice((0, 0, 1)), made.randrange(many)))
        elif kind == "asks":
            few = [made.randrange(many) for _ in range(2)]
            rows.append((kind, tuple(made.choice(few) for _ in range(8))))
        else:
            rows.append((kind,))
    return ("machine", tuple(rows))


class MachineTest(unittest.TestCase):
    def test_forms(self):
        for rows in ((ENDS,), (NEVER,), (RUINED,), (("shows", 7, 0),), (("asks", (0,) * 8),), ECHO[1], (ENDS, NEVER, RUINED)):
            self.assertIs(is_machine(("machine", rows)), True)
        for rows in ((), [ENDS], (("waits",),), (("more",),), (("shows", 8, 0),), (("shows", -1, 0),), (("shows", 0, 1),),
                     (("shows", True, 0),), (("shows", 0, False),), (("shows", 0),), (("asks", (0,) * 7),), (("asks", (0,) * 9),),
                     (("asks", (1,) * 8),), (("asks", [0] * 8),), (("asks", (False,) * 8),), (["ends"],), ("ends",),
                     (("asks", 0, 0),), (("ends", 0),), (ENDS, None), ((),)):
            self.assertIs(is_machine(thing=("machine", rows)), False, rows)
        for thing in STRANGE + (("machine",), ("machine", (ENDS,), ()), ["machine", (ENDS,)], ("maker", (ENDS,)), (ENDS,)):
            self.assertIs(is_machine(thing), False)

    def test_nearly_right(self):
        machine = ("machine", (("asks", (1, 2, 0, 1, 1, 1, 1, 1)), ("shows", 1, 0), NEVER))
        for thing in nearly(machine):
            expected = type(thing) is tuple and len(thing) == 2 and thing[0] == "machine" and type(thing[1]) is tuple and \
                len(thing[1]) > 0 and all(self.is_row(row, len(thing[1])) for row in thing[1])
            self.assertIs(is_machine(thing), expected, thing)

    def is_row(self, row, many):
        if type(row) is not tuple or not row or type(row[0]) is not str:
            return False
        if row[0] == "asks":
            return len(row) == 2 and type(row[1]) is tuple and len(row[1]) == 8 and all(
                type(one) is int and 0 <= one < many for one in row[1])
        if row[0] == "shows":
            return len(row) == 3 and all(type(one) is int for one in row[1:]) and 0 <= row[1] < 8 and 0 <= row[2] < many
        return row in (ENDS, NEVER, RUINED)

    def test_shown_by(self):
        self.assertEqual(shown_by(ECHO, (), 5), ((), "waits"))
        self.assertEqual(shown_by(machine=ECHO, inputs=[3], most=5), ((("asked", 3), ("shown", 1)), "ends"))
        self.assertEqual(shown_by(ECHO, (3, 4), 2), ((("asked", 3), ("shown", 1)), "ends"))
        self.assertEqual(shown_by(ECHO, (3,), 1), ((("asked", 3),), "more"))
        self.assertEqual(shown_by(ECHO, (3,), 0), ((), "more"))
        self.assertEqual(shown_by(ECHO, (), 0), ((), "waits"))
        self.assertEqual(shown_by(("machine", (("shows", 5, 0),)), (), 3), ((("shown", 5),) * 3, "more"))
        self.assertEqual(len(shown_by(("machine", (("shows", 5, 0),)), (), 200)[0]), 200)
        for row in (ENDS, NEVER, RUINED):
            self.assertEqual(shown_by(("machine", (row,)), (1,), 0), ((), row[0]))

    def check_least(self, machine):
        self.assertTrue(is_machine(machine))
        self.assertEqual(met(machine), list(range(len(machine[1]))))
        many = len(machine[1])
        self.assertEqual(len(parted(machine)), many * (many - 1))

    def test_least_machines(self):
        self.assertEqual(least_machine(ECHO), ECHO)
        self.assertEqual(least_machine(("machine", (("shows", 1, 1), ("shows", 1, 0)))), ("machine", (("shows", 1, 0),)))
        self.assertEqual(least_machine(("machine", (("shows", 1, 2), NEVER, ENDS))), ("machine", (("shows", 1, 1), ENDS)))
        self.assertEqual(least_machine(("machine", (("asks", (2, 1) * 4), ENDS, ENDS))), ("machine", (("asks", (1,) * 8), ENDS)))
        self.assertEqual(least_machine(("machine", (("asks", (3, 2) * 4), ENDS, NEVER, RUINED))),
                         ("machine", (("asks", (1, 2) * 4), RUINED, NEVER)))
        for row in (ENDS, NEVER, RUINED):
            self.assertEqual(least_machine(machine=("machine", (row, ENDS, ENDS))), ("machine", (row,)))

    def test_chains_of_many_rows(self):
        chain = tuple(("shows", 1, at + 1) for at in range(150)) + (ENDS,)
        self.assertEqual(least_machine(("machine", chain)), ("machine", chain))
        self.assertEqual(shown_by(("machine", chain), (), 200), ((("shown", 1),) * 150, "ends"))
        ring = tuple(("shows", at % 3, (at + 1) % 120) for at in range(120))
        self.assertEqual(least_machine(("machine", ring)), ("machine", (("shows", 0, 1), ("shows", 1, 2), ("shows", 2, 0))))
        asks = tuple(("asks", (at + 1,) * 7 + (0,)) for at in range(90)) + (NEVER,)
        self.assertEqual(least_machine(("machine", asks[::-1][:1] + asks)), ("machine", (NEVER,)))
        self.assertEqual(least_machine(("machine", asks)), ("machine", asks))
        turned = ("machine", (("shows", 2, 4), ENDS, ("shows", 1, 1), ("shows", 0, 2), ("shows", 3, 3), ("shows", 5, 0)))
        self.assertEqual(least_machine(turned), ("machine", (("shows", 2, 1), ("shows", 3, 2), ("shows", 0, 3), ("shows", 1, 4), ENDS)))

    def test_least_of_many(self):
        less = 0
        for seed in range(300):
            machine = some_machine(seed, 2 + seed % 7)
            least = least_machine(machine)
            self.check_least(least)
            self.assertEqual(least_machine(least), least)
            less += len(least[1]) < len(met(machine))
            both = ("machine", machine[1] + tuple(self.moved(row, len(machine[1])) for row in least[1]))
            self.assertNotIn((0, len(machine[1])), parted(both))
            for inputs in ((), (0,), (1, 6), (0, 3, 5), (7, 7, 7, 7)):
                for most in (0, 1, 2, 9):
                    told = shown_by(machine, inputs, most)
                    self.assertEqual(told, shows(machine, 0, inputs, most))
                    self.assertEqual(told, shown_by(least, inputs, most))
        self.assertGreater(less, 10)

    def moved(self, row, by):
        if row[0] == "asks":
            return ("asks", tuple(one + by for one in row[1]))
        return row[:2] + (row[2] + by,) if row[0] == "shows" else row

    def test_one_machine_for_the_same_showings(self):
        """Rows doubled, moved and added make the same least machine."""
        for seed in range(60):
            machine = some_machine(seed, 5)
            twice = ("machine", tuple(self.moved(row, 5) for row in machine[1]) + machine[1])
            self.assertEqual(least_machine(twice), least_machine(machine))

    def test_machine_of(self):
        told = document(width=("run", (1,)))
        for body, rows in ((show(ASK), ECHO[1]), (ONE, (ENDS,)), (("while", ONE, ONE), (NEVER,)), (("over", ONE, number(0)), (RUINED,)),
                           (("while", ONE, show(ONE)), (("shows", 1, 0),)), (then(ASK, ASK), (("asks", (1,) * 8), ("asks", (2,) * 8), ENDS))):
            self.assertEqual(machine_of(document=told, program=program(body), choice=("left", "up", 0, 1)), ("machine", rows))

    def test_first_options(self):
        told = document(("anew", ("right",)), ("anew", ("up", "down")), ("anew", ("none",)))
        self.assertEqual(machine_of(told, program(name("x")), (None, None, None, 1)), ("machine", (RUINED,)))
        choice = (None, None, None, 1)
        thing = program(then(("each", "x", 0, 1, ONE), show(name("x"))))
        self.assertEqual(machine_of(told, thing, choice), ("machine", (("shows", 1, 1), ENDS)))
        round_ = program(("while", ("plus", ONE, number(0)), ("plus", ONE, ONE)))
        self.assertEqual(machine_of(told, round_, choice), ("machine", (NEVER,)))

    def test_many_against_runs_of_first(self):
        heads = set()
        for told, thing in small_cases(87, 150, 120):
            for choice in choices(told, thing):
                machine = machine_of(told, thing, choice)
                self.check_least(machine)
                heads |= {row[0] for row in machine[1]}
                for inputs in ((), (1,), (0, 6), (5, 2, 1)):
                    for most in (0, 1, 3, 12):
                        self.assertEqual(shown_by(machine, inputs, most),
                                         run(told, thing, first_of(told, choice), inputs, most))
        self.assertEqual(heads, {"ends", "never", "ruined", "shows", "asks"})


if __name__ == "__main__":
    unittest.main()
