"""Points [42], [47]: sheets, and where two programs are apart first."""

import unittest

from anymaker.choices import choices
from anymaker.comings import comes
from anymaker.sheets import first_apart, sheet
from tests import model
from tests.samples import ASK, document, name, number, program, put, show, small_cases, then

ONE = number(1)
ENDS = ("more", "ends", "waits", "never", "ruined")


def rank(showing):
    events, end = showing
    return (len(events), events, ENDS.index(end))


def unfolded(rows, most):
    """All showings of at most so many events that a sheet tells."""
    found = set()

    def go(row, events):
        ends, goes = rows[row]
        found.update((events, end) for end in ends)
        if goes:
            found.add((events, "more"))
        if any(event[0] == "asked" for event, _ in goes):
            found.add((events, "waits"))
        if len(events) < most:
            for event, reached in goes:
                go(reached, events + (event,))
    go(0, ())
    return found


def is_least(rows):
    """Whether no two rows are alike and all are numbered as they are met."""
    met = [0]
    for at in range(len(rows)):
        if at >= len(met):
            return False
        for _, reached in rows[met[at]][1]:
            if reached not in met:
                met.append(reached)
    if met != list(range(len(rows))):
        return False
    unlike = {(a, b) for a in range(len(rows)) for b in range(len(rows))
              if rows[a][0] != rows[b][0] or [e for e, _ in rows[a][1]] != [e for e, _ in rows[b][1]]}
    grown = True
    while grown:
        more = {(a, b) for a in range(len(rows)) for b in range(len(rows)) if (a, b) not in unlike
                and any((x, y) in unlike for (_, x), (_, y) in zip(rows[a][1], rows[b][1]))}
        unlike |= more
        grown = bool(more)
    return all((a, b) in unlike for a in range(len(rows)) for b in range(len(rows)) if a != b)


class SheetTest(unittest.TestCase):
    def test_example(self):
        """Point [47]."""
        told = document(order=("anew", ("left", "right")), fill=("anew", (0, "none")), width=("run", (2,)))
        body = show(("plus", put("x", ONE), name("x")))
        self.assertEqual(sheet(told, program(body)),
                         ((("ruined",), ((("shown", 1), 1), (("shown", 2), 1))), (("ends",), ())))

    def test_by_hand(self):
        self.assertEqual(sheet(document(), program(ONE)), ((("ends",), ()),))
        self.assertEqual(sheet(document(), program(("while", ONE, ONE))), ((("never",), ()),))
        self.assertEqual(sheet(document(), program(("while", ONE, show(ONE)))), (((), ((("shown", 1), 0),)),))
        self.assertEqual(sheet(document=document(), program=program(then(ASK, ONE))), (
            ((), tuple((("asked", n), 1) for n in range(8))), (("ends",), ())))
        self.assertEqual(sheet(document(), program(show(ASK))), (
            ((), tuple((("asked", n), 1 + n % 2) for n in range(8))), ((), ((("shown", 0), 3),)),
            ((), ((("shown", 1), 3),)), (("ends",), ())))

    def test_ends_stand_in_order(self):
        told = document(fill=("anew", (0, 1, "none")))
        thing = program(("while", name("x"), ONE))
        self.assertEqual(sheet(told, thing), ((("ends", "never", "ruined"), ()),))

    def test_all_choices_together(self):
        told = document(order=("run", ("left", "right")), width=("run", (1, 2)))
        thing = program(("plus", show(number(2)), show(number(3))))
        self.assertEqual([event for event, _ in sheet(told, thing)[0][1]], [
            ("shown", 0), ("shown", 1), ("shown", 2), ("shown", 3)])

    def test_many_unfold_to_all_showings(self):
        for told, thing in small_cases(27, 70, 60):
            rows = sheet(told, thing)
            self.assertEqual(unfolded(rows, 2), model.showings(told, thing, choices(told, thing), 2))
            self.assertTrue(is_least(rows), rows)

    def test_more_than_400_choices_are_refused_elsewhere_one_is_fine(self):
        self.assertEqual(len(choices(document(), program(show(ONE)))), 1)
        self.assertEqual(sheet(document(), program(show(ONE))), (((), ((("shown", 1), 1),)), (("ends",), ())))


class ApartTest(unittest.TestCase):
    def apart(self, one, other, told=None):
        return first_apart(told or document(), program(one), program(other))

    def test_equal_sheets(self):
        self.assertIsNone(self.apart(ONE, number(0)))
        self.assertIsNone(self.apart(show(ONE), then(ONE, show(number(3)))))
        self.assertIsNone(first_apart(document=document(), program=program(ONE), other=program(name("y"), ("y", "z"))))

    def test_ends(self):
        self.assertEqual(self.apart(ONE, ("while", ONE, ONE)), (((), "ends"), 1))
        self.assertEqual(self.apart(("while", ONE, ONE), ONE), (((), "ends"), 2))
        self.assertEqual(self.apart(ASK, show(ONE)), (((), "waits"), 1))
        self.assertEqual(self.apart(ONE, ASK), (((), "more"), 2))
        self.assertEqual(self.apart(("over", ONE, number(0)), ("while", ONE, ONE)), (((), "never"), 2))

    def test_events(self):
        self.assertEqual(self.apart(show(ONE), show(number(0))), (((("shown", 0),), "ends"), 2))
        self.assertEqual(self.apart(show(ONE), then(show(ONE), show(ONE))), (((("shown", 1),), "more"), 2))
        self.assertEqual(self.apart(show(ASK), then(ASK, show(ONE))),
                         (((("asked", 0), ("shown", 0)), "ends"), 1))

    def test_many_against_all_showings(self):
        cases = small_cases(28, 60, 60, depth=2)
        apart = 0
        for (told, one), (_, other) in zip(cases, cases[1:]):
            try:
                mine, others = [model.showings(told, thing, choices(told, thing), 3) for thing in (one, other)]
            except ValueError:
                continue
            found = first_apart(told, one, other)
            unlike = sorted(mine ^ others, key=rank)
            if unlike:
                self.assertEqual(found, (unlike[0], 1 if unlike[0] in mine else 2))
                self.assertEqual(comes(told, (one, other)[found[1] - 1], found[0])[0], "comes")
                self.assertEqual(comes(told, (other, one)[found[1] - 1], found[0])[0], "not")
                apart += 1
            else:
                self.assertEqual(found is None, sheet(told, one) == sheet(told, other))
            turned = first_apart(told, other, one)
            self.assertEqual(turned, None if found is None else (found[0], 3 - found[1]))
        self.assertGreater(apart, 20)

    def test_equal_just_if_the_same_showings_come(self):
        told = document(order=("anew", ("left", "right")))
        one = program(("plus", show(ONE), show(number(0))))
        other = program(("plus", show(number(0)), show(ONE)))
        self.assertEqual(sheet(told, one), sheet(told, other))
        self.assertIsNone(first_apart(told, one, other))
        still = document()
        self.assertEqual(first_apart(still, one, other), (((("shown", 0),), "more"), 2))


if __name__ == "__main__":
    unittest.main()
