"""Point [72]: tables."""

import unittest

from anymaker.choices import choices
from anymaker.rewriting import right_program
from anymaker.stepping import standings
from anymaker.tables import is_table, table
from tests import model
from tests.nearly import STRANGE, nearly
from tests.rights import agree, by_bases, wrong_showings
from tests.samples import ASK, Maker, document, few_standings, name, number, program, put, show, then

ONE = number(1)
BASE = (None, None, None, None)


class Words:
    """The words of point [72], over pairs of indexes."""

    def __init__(self, told, old, new):
        self.told, self.old, self.new = told, old, new
        self.old_rows = [standings(told, old, choice) for choice in choices(told, old)]
        self.new_rows = [standings(told, new, choice) for choice in choices(told, new)]

    def moves(self, side, pair):
        thing, rows = (self.old, self.old_rows) if side == "old" else (self.new, self.new_rows)
        return model.moves(self.told, thing, choices(self.told, thing)[pair[0]], rows[pair[0]][pair[1]])

    def number(self, side, choice, standing):
        return (self.old_rows if side == "old" else self.new_rows)[choice].index(standing)

    def behind(self, side, pair, event):
        move = self.moves(side, pair)
        if event is None:
            rows = model.silent(move)
        elif event == "any shown":
            rows = [one for told, one in model.eventful(move) if told[0] == "shown"]
        else:
            rows = [one for told, one in model.eventful(move) if told == event]
        return [(pair[0], self.number(side, pair[0], one)) for one in rows]

    def least(self, pairs, is_wide):
        found = list(dict.fromkeys(pairs))
        for pair in found:
            for one in self.behind("old", pair, None) + (self.behind("old", pair, "any shown") if is_wide else []):
                if one not in found:
                    found.append(one)
        return tuple(sorted(found))

    def is_lot(self, thing, is_wide):
        if type(thing) is not tuple:
            return False
        for pair in thing:
            if type(pair) is not tuple or len(pair) != 2 or not all(type(one) is int for one in pair):
                return False
            if not (0 <= pair[0] < len(self.old_rows) and 0 <= pair[1] < len(self.old_rows[pair[0]])):
                return False
        return self.least(thing, is_wide) == thing

    def is_row(self, row):
        if type(row) is not tuple or len(row) != 4 or type(row[0]) is not int or type(row[1]) is not int:
            return False
        if not (0 <= row[0] < len(self.new_rows) and 0 <= row[1] < len(self.new_rows[row[0]])):
            return False
        return self.is_lot(row[2], False) and self.is_lot(row[3], self.told[5] == "whole")

    def first_rows(self, base, other):
        whole = self.told[5] == "whole"
        begins = [(at, 0) for at, choice in enumerate(choices(self.told, self.old))
                  if choice in by_bases(self.told, self.old)[other]]
        return [(at, 0, self.least(begins, False), self.least(begins, whole))
                for at, choice in enumerate(choices(self.told, self.new)) if choice in by_bases(self.told, self.new)[base]]

    def nexts(self, row):
        """The rows that have to be there, () if the row is done, None if it must not be."""
        choice, at, lot, wide = row
        whole = self.told[5] == "whole"
        if any(model.ruinous(self.moves("old", pair)) for pair in wide):
            return []
        move = self.moves("new", (choice, at))
        told = [self.moves("old", pair) for pair in lot]
        if model.ruinous(move) or move[0] == "ends" and not any(one[0] == "ends" for one in told):
            return None
        mine = model.closed(self.told, self.new, choices(self.told, self.new)[choice], [self.new_rows[choice][at]])
        if model.has_round(self.told, self.new, choices(self.told, self.new)[choice], mine) and not any(
                model.has_round(self.told, self.old, choices(self.told, self.old)[one], [
                    self.old_rows[a][b] for a, b in lot if a == one]) for one in range(len(self.old_rows))):
            return None
        found = [one + (lot, wide) for one in self.behind("new", (choice, at), None)]
        for event, _ in model.eventful(move):
            reached = [one for pair in lot for one in self.behind("old", pair, event)]
            if not reached:
                return None
            beside = least = self.least(reached, False)
            if whole and event[0] == "asked":
                beside = self.least([one for pair in wide for one in self.behind("old", pair, event)], True)
            elif whole:
                beside = wide
            found += [one + (least, beside) for one in self.behind("new", (choice, at), event)]
        return found

    def is_table(self, base, other, thing):
        if type(thing) is not tuple or not all(self.is_row(row) for row in thing) or len(set(thing)) < len(thing):
            return False
        nexts = [self.nexts(row) for row in thing]
        return None not in nexts and all(row in thing for row in sum(nexts, self.first_rows(base, other)))


def cases(seed, many, most=40, **told_more):
    """Documents with an old program and a new one, often alike."""
    maker = Maker(seed)
    found = []
    while len(found) < many:
        told, old = maker.document(), maker.program(**told_more)
        new = maker.program(**told_more)
        if maker.random.random() < 0.75:
            body = old[3]
            new = old[:3] + (maker.some((then(ONE, body), then(name("x"), body), ("plus", body, number(0)),
                                         ("plus", number(0), body), ("if", name("y"), body, body),
                                         then(show(ONE), body), ("if", ASK, body, body), then(body, body))),)
            old, new = maker.some(((old, new), (new, old)))
        if few_standings(told, old, most) and few_standings(told, new, most):
            found.append((told, old, new))
    return found


class TableTest(unittest.TestCase):
    def test_by_hand(self):
        told = document()
        same = program(show(ONE))
        self.assertEqual(table(told, same, same, BASE, BASE), (
            (0, 0, ((0, 0),), ((0, 0),)), (0, 1, ((0, 1),), ((0, 1),))))
        whole = document(ruin="whole")
        self.assertEqual(table(whole, same, same, BASE, BASE), (
            (0, 0, ((0, 0),), ((0, 0), (0, 1))), (0, 1, ((0, 1),), ((0, 0), (0, 1)))))

    def test_a_done_row_asks_for_nothing(self):
        told = document()
        old, new = program(("over", ONE, number(0), "left")), program(show(ONE))
        self.assertEqual(table(told, old, new, BASE, BASE), ((0, 0, ((0, 0),), ((0, 0),)),))

    def test_ruin_behind_a_show_is_wide_by_whole_alone(self):
        old = program(then(show(ONE), ("over", ONE, number(0), "left")))
        new = program(show(number(0)))
        self.assertIsNone(table(document(), old, new, BASE, BASE))
        self.assertEqual(table(document(ruin="whole"), old, new, BASE, BASE), (
            (0, 0, ((0, 0),), ((0, 0), (0, 1), (0, 2))),))

    def test_none_for_each_fault(self):
        for old, new in ((show(ONE), ONE), (ONE, show(ONE)), (ONE, ("while", ONE, ONE)), (ONE, ("over", ONE, number(0))),
                         (ONE, ASK), (ASK, ONE), (("while", ONE, ONE), ONE), (show(ONE), show(number(0))),
                         (then(ASK, ONE), then(ASK, ASK))):
            self.assertIsNone(table(document(), program(old), program(new), BASE, BASE))

    def test_all_choices_that_extend_a_base(self):
        told = document(order=("run", ("left", "right")), walk=("ever", ("up", "down")))
        thing = program(("plus", show(ONE), show(number(0))))
        base = (None, "down", None, None)
        found = table(document=told, old=thing, new=thing, base=base, other=base)
        self.assertEqual({row[0] for row in found}, {1, 3})
        first = [row for row in found if row[1] == 0]
        self.assertTrue(all({pair[0] for pair in row[2]} == {1, 3} for row in first))

    def test_many_against_all_showings(self):
        found = {True: 0, False: 0}
        for told, old, new in cases(33, 80):
            for base in by_bases(told, new):
                for other in by_bases(told, old):
                    if not agree(told, base, other):
                        continue
                    rows = table(told, old, new, base, other)
                    wrong = wrong_showings(told, old, new, base, other, 2)
                    if rows is not None:
                        self.assertFalse(wrong, (told, old, new, base, other))
                        self.assertEqual(rows, tuple(sorted(set(rows))))
                        self.assertTrue(is_table(told, old, new, base, other, rows))
                    elif not wrong:
                        self.assertTrue(wrong_showings(told, old, new, base, other, 4), (told, old, new, base, other))
                    found[rows is None] += 1
        self.assertGreater(min(found.values()), 30)

    def test_the_rows_that_come(self):
        for told, old, new in cases(34, 30):
            words = Words(told, old, new)
            for base in list(by_bases(told, new))[:2]:
                for other in [one for one in by_bases(told, old) if agree(told, base, one)][:2]:
                    coming = words.first_rows(base, other)
                    for row in coming:
                        nexts = words.nexts(row)
                        if nexts is None:
                            coming = None
                            break
                        coming += [one for one in dict.fromkeys(nexts) if one not in coming]
                    expected = None if coming is None else tuple(sorted(set(coming)))
                    self.assertEqual(table(told, old, new, base, other), expected)


class IsTableTest(unittest.TestCase):
    def test_nearly_right(self):
        checked = {True: 0, False: 0}
        for told, old, new in cases(35, 40, 9, depth=2, names=("x", "y")):
            words = Words(told, old, new)
            for base in list(by_bases(told, new))[:1]:
                for other in [one for one in by_bases(told, old) if agree(told, base, one)][:1]:
                    rows = table(told, old, new, base, other)
                    if rows is None:
                        continue
                    others = list(nearly(rows))
                    for thing in others[::1 + len(others) // 150]:
                        expected = words.is_table(base, other, thing)
                        self.assertIs(is_table(told, old, new, base, other, thing), expected, (told, old, new, thing))
                        checked[expected] += 1
        self.assertGreater(checked[False], 500)

    def test_rows_that_do_not_come(self):
        told = document(ruin="whole", order=("anew", ("left", "right")))
        old = program(then(ASK, ("plus", show(ONE), show(ONE)), show(number(0))))
        base = (None, None, None, None)
        rows = table(told, old, old, base, base)
        words = Words(told, old, old)
        found = {True: 0, False: 0}
        for choice, at, lot, wide in rows:
            for less in [lot] + [words.least(lot[cut:], False) for cut in range(0, len(lot) + 1, 2)]:
                for near in [wide] + [words.least(wide[cut:], True) for cut in range(0, len(wide) + 1, 7)]:
                    row = (choice, at, less, near)
                    thing = rows + (row,) if row not in rows else rows
                    expected = words.is_table(base, base, thing)
                    self.assertIs(is_table(told, old, old, base, base, thing), expected)
                    found[expected] += 1
        self.assertGreater(min(found.values()), 3)

    def test_any_sequence(self):
        told = document()
        thing = program(then(show(ONE), show(number(0))))
        rows = table(told, thing, thing, BASE, BASE)
        self.assertTrue(is_table(told, thing, thing, BASE, BASE, rows[::-1]))
        self.assertFalse(is_table(told, thing, thing, BASE, BASE, list(rows)))
        self.assertFalse(is_table(told, thing, thing, BASE, BASE, rows + rows[:1]))
        self.assertFalse(is_table(told, thing, thing, BASE, BASE, rows[:-1]))
        for other in STRANGE:
            self.assertIs(is_table(document=told, old=thing, new=thing, base=BASE, other=BASE, thing=other), False)

    def test_there_is_one_just_if_the_base_is_served(self):
        for told, old, new in cases(36, 40):
            found = right_program(told, old, new)
            for base in by_bases(told, new):
                served = [other for other in by_bases(told, old)
                          if agree(told, base, other) and table(told, old, new, base, other) is not None]
                if found[0] == "right":
                    self.assertEqual(dict(found[1])[base], served[0])
                elif base == found[1]:
                    self.assertEqual(served, [])
                    break
                else:
                    self.assertTrue(served)


if __name__ == "__main__":
    unittest.main()
