"""Points [90] and [91]: records of runs, deals, quarrels, what is left open."""

import itertools
import unittest

from anymaker.choices import choices
from anymaker.deals import deal, is_deal, left_open, quarrel
from anymaker.errors import BadDocument, BadKind, BadRecords, TooMany
from anymaker.makers import is_maker, maker_of
from anymaker.runs import run
from tests import model
from tests.nearly import STRANGE, nearly
from tests.samples import ASK, BIT, Maker, SWAY, document, name, number, program, put, show, telling_cases, then

ONE = number(1)
ZERO = number(0)
BOTH = ("left", "right")
KINDS = ("order", "walk", "fill", "width")
PAIR = program(("plus", show(ONE), show(ZERO)))
OTHER = program(then(("plus", show(ONE), show(ZERO)), ZERO))
LEFT = (PAIR, (), ((("shown", 1), ("shown", 0)), "ends"))
RIGHT = (PAIR, (), ((("shown", 0), ("shown", 1)), "ends"))
LATER = (OTHER, [], ((("shown", 0), ("shown", 1)), "ends"))
WIDE = document(order=("place", BOTH), fill=("run", (0, 1, 2)))
SUMS = program(then(*[("plus", ONE, ONE)] * 8))


def asked(events):
    return tuple(number for word, number in events if word == "asked")


def model_is_record(thing):
    """By the words of [90]."""
    from anymaker.programs import is_program
    if type(thing) is not tuple or len(thing) != 3 or not is_program(thing[0]):
        return False
    inputs, showing = thing[1:]
    if not isinstance(inputs, (list, tuple)) or not all(type(one) is int and 0 <= one <= 7 for one in inputs):
        return False
    if type(showing) is not tuple or len(showing) != 2 or type(showing[0]) is not tuple or type(showing[1]) is not str:
        return False
    for event in showing[0]:
        if type(event) is not tuple or len(event) != 2 or type(event[0]) is not str or event[0] not in ("asked", "shown"):
            return False
        if type(event[1]) is not int or not 0 <= event[1] <= 7:
            return False
    given = asked(showing[0])
    if showing[1] not in ("more", "ends", "waits", "never") or given != tuple(inputs)[:len(given)]:
        return False
    return showing[1] != "waits" or len(given) == len(inputs)


def ruined_with(told, thing, choice, inputs):
    """The events of ruined runs with these inputs, by ahead those that tell; any run, however long."""
    pending = [(model.first(thing), 0)]
    seen = set(pending)
    for standing, used in pending:
        move = model.moves(told, thing, choice, standing)
        if model.ruinous(move):
            return True
        for event, one in [(None, one) for one in model.silent(move)] + model.eventful(move):
            given = used
            if event is not None and event[0] == "asked":
                if used == len(inputs) or event[1] != inputs[used]:
                    continue
                given += 1
            if (one, given) not in seen:
                seen.add((one, given))
                pending.append((one, given))
    return False


def can_give(told, record, choice):
    """Whether some maker of any memory with this choice gives the record, by lots."""
    thing, inputs, (events, end) = record
    lot = model.lot_behind(told, thing, choice, events)
    if end == "more":
        moves = [model.moves(told, thing, choice, standing) for standing in lot]
        found = any(move[0] == "goes" and move[1] is not None or move[0] == "asks" and len(asked(events)) < len(inputs) for move in moves)
    else:
        found = end in model.ends_of(told, thing, choice, lot)
    if found:
        return True
    if told[5] == "whole":
        return ruined_with(told, thing, choice, inputs)
    beginnings = [model.lot_behind(told, thing, choice, events[:many]) for many in range(len(events) + 1)]
    return any("ruined" in model.ends_of(told, thing, choice, lot) for lot in beginnings)


def are_let(told, records, options=None):
    """Whether choices agree and can give the records, by the words; options fixes those of kinds for ever."""
    givers = [[choice for choice in choices(told, record[0]) if can_give(told, record, choice)] for record in records]

    def agree(row):
        for (mine, record), (others, other) in itertools.combinations(zip(row, records), 2):
            for pair, one, two in zip(told[1:5], mine, others):
                if pair[0] == "ever" and one != two:
                    return False
                if pair[0] in ("program", "part", "place") and record[0] == other[0] and one != two:
                    return False
        return True

    def go(row, left):
        if not agree(row):
            return False
        return not left or any(go(row + [choice], left[1:]) for choice in left[0])
    return go([], givers)


def shown_by(told, thing, maker, inputs, most):
    return run(told, thing, maker, inputs, most)


def model_is_deal(told, records, thing):
    """By the words of [90] and [91]; runs longer than 150 events are taken for endless."""
    if type(thing) is not tuple or len(thing) != len(records):
        return False
    if not all(is_maker(told, record[0], maker) for record, maker in zip(records, thing)):
        return False
    for (record, mine), (other, others) in itertools.combinations(zip(records, thing), 2):
        for pair, one, two in zip(told[1:5], mine[1], others[1]):
            same = pair[0] == "ever" or pair[0] in ("program", "part", "place") and record[0] == other[0]
            if same and one != two:
                return False
    for (program_, inputs, showing), maker in zip(records, thing):
        if shown_by(told, program_, maker, inputs, len(showing[0])) == showing:
            continue
        events, end = shown_by(told, program_, maker, inputs, 150)
        if end != "ruined" or told[5] == "ahead" and showing[0][:len(events)] != events:
            return False
    return True


def record_of(maker, told, thing):
    """A record of a run by some maker, or one that is nearly so."""
    choice = maker.some(choices(told, thing))
    let = [option for pair in told[1:5] if pair[0] == "anew" for option in pair[1]]
    options = [maker.some(let) for _ in range(maker.some((0, 2, 4)))] if let else []
    inputs = tuple(maker.some((0, 1, 2)) for _ in range(maker.some((0, 1, 2, 3))))
    events, end = run(told, thing, maker_of(told, thing, choice, options), inputs, maker.some((0, 1, 2, 3, 9)))
    if end == "ruined" or maker.random.random() < 0.3:
        end = maker.some(("more", "ends", "never"))
    if events and maker.random.random() < 0.2:
        events = events[:-1] + (("shown", maker.some((0, 1))),)
    record = (thing, maker.some((tuple, list))(inputs), (events, end))
    return record if model_is_record(record) else record_of(maker, told, thing)


def cases(seed, many, most=3):
    """Pairs of a document and some records, of one program and of several."""
    maker = Maker(seed)
    things = telling_cases(seed + 1, many, 80, choices_at_most=12)
    found = []
    for at, (told, thing) in enumerate(things):
        other = things[at - 1][1]
        try:
            few = len(choices(told, other)) <= 12
        except TooMany:
            few = False
        rows = [record_of(maker, told, maker.some((thing, thing, other)) if few else thing) for _ in range(maker.some(range(1, most + 1)))]
        found.append((told, maker.some((list, tuple))(rows)))
    return found


class DealTest(unittest.TestCase):
    def test_scopes(self):
        """One program or two, one run or several: what each scope lets."""
        for scope, same, others in (("ever", False, False), ("program", False, True), ("part", False, True), ("place", False, True),
                                    ("run", True, True), ("anew", True, True)):
            told = document(order=(scope, BOTH))
            self.assertEqual(deal(document=told, records=[LEFT, LEFT]) is not None, True)
            self.assertEqual(deal(told, [LEFT, RIGHT]) is not None, same, scope)
            self.assertEqual(deal(told, (LEFT, LATER)) is not None, others, scope)
            for rows in ([LEFT], (LEFT, RIGHT), [LEFT, LATER], [LATER, RIGHT]):
                found = deal(told, rows)
                if found is not None:
                    self.assertTrue(is_deal(document=told, records=rows, thing=found))
                    self.assertTrue(model_is_deal(told, rows, found))

    def test_example(self):
        """[94]: by E the one place has one option in both runs."""
        self.assertEqual(quarrel(document=document(order=("place", BOTH)), records=[LEFT, RIGHT]), (0, 1))
        self.assertIsNone(quarrel(document(order=("run", BOTH)), [LEFT, RIGHT]))

    def test_ruined_runs(self):
        """By ahead the events of a ruined run have to begin the record's, by whole they are whatever they are."""
        thing = program(then(show(ONE), ("over", ONE, ZERO, "left")))
        for showing, ahead, whole in (((), False, True), ((("shown", 1),), True, True), ((("shown", 0),), False, True),
                                      ((("shown", 1), ("shown", 7)), True, True)):
            for end in ("more", "ends", "never", "waits"):
                record = (thing, (), (showing, end))
                self.assertEqual(deal(document(), [record]) is not None, ahead or end == "more" and not showing, (showing, end))
                self.assertEqual(deal(document(ruin="whole"), [record]) is not None, whole)
                for told in (document(), document(ruin="whole")):
                    found = deal(told, [record])
                    self.assertTrue(found is None or model_is_deal(told, [record], found) and is_deal(told, [record], found))

    def test_ruined_however_late(self):
        """Behind many events, and only with the inputs of the record."""
        late = program(then(*[show(ONE)] * 9, ("over", ONE, ASK, "left")))
        told = document(ruin="whole")
        for inputs, fine in (((0,), True), ((1,), False), ((), False), ((2,), True)):
            self.assertEqual(deal(told, [(late, inputs, ((), "ends"))]) is not None, fine, inputs)
            self.assertEqual(deal(document(), [(late, inputs, ((), "ends"))]) is not None, False)
            events = (("shown", 1),) * 9 + tuple(("asked", one) for one in inputs)
            self.assertEqual(deal(document(), [(late, inputs, (events + (("shown", 5),), "never"))]) is not None, fine)
        ever = program(("while", ONE, then(show(ONE), name("x"))))
        for fill, fine in (("none", True), (0, False)):
            self.assertEqual(deal(document(fill=("anew", (0, fill) if fill else (0,)), ruin="whole"), [(ever, (), ((), "ends"))]) is not None, fine)

    def test_more_waits_and_inputs_left(self):
        asking = program(then(show(ASK), ASK))
        for inputs, showing, fine in (
                ((), ((), "waits"), True), ((), ((), "more"), False), ((1,), ((), "more"), True), ((1,), ((), "ends"), False),
                ((1,), ((("asked", 1),), "more"), True), ((1,), ((("asked", 1), ("shown", 1)), "waits"), True),
                ((1,), ((("asked", 1), ("shown", 1)), "more"), False), ((1, 2), ((("asked", 1), ("shown", 1)), "more"), True),
                ((1, 2, 3), ((("asked", 1), ("shown", 1), ("asked", 2)), "ends"), True),
                ((1, 2), ((("asked", 1), ("shown", 0)), "more"), False)):
            self.assertEqual(deal(document(), [(asking, inputs, showing)]) is not None, fine, (inputs, showing))

    def test_never(self):
        quiet = program(then(("while", name("x"), ZERO), show(ONE)))
        for fills, fine in (((0,), False), ((0, 1), True), ((1,), True)):
            for scope in ("run", "anew", "ever"):
                told = document(fill=(scope, fills))
                found = deal(told, [(quiet, (), ((), "never"))])
                self.assertEqual(found is not None, fine)
                self.assertTrue(found is None or is_deal(told, [(quiet, (), ((), "never"))], found))

    def test_many(self):
        met = {True: 0, False: 0}
        for told, records in cases(261, 160):
            found = deal(told, records)
            self.assertEqual(found is not None, are_let(told, records), (told, records))
            met[found is not None] += 1
            if found is not None:
                self.assertTrue(is_deal(told, records, found), (told, records, found))
                self.assertTrue(model_is_deal(told, records, found), (told, records, found))
        self.assertGreater(min(met.values()), 30)

    def test_quarrels(self):
        """The first of the shortest; a deal and a quarrel, never both."""
        lengths = set()
        for told, records in cases(262, 80, 4):
            found = quarrel(told, records)
            self.assertEqual(found is None, deal(told, records) is not None)
            rows = [lot for many in range(1, len(records) + 1) for lot in itertools.combinations(range(len(records)), many)]
            rows = [lot for lot in rows if not are_let(told, [records[at] for at in lot])]
            self.assertEqual(found, rows[0] if rows else None)
            lengths.add(len(found or ()))
        self.assertGreaterEqual(lengths, {0, 1})

    def test_longer_quarrels(self):
        """Each two of three records are let together, all three are not."""
        told = document(fill=("ever", (0, 1, 2)), width=("run", (2,)))
        rows = [(program(show(("same", name("x"), number(one)))), (), ((("shown", 0),), "ends")) for one in (0, 1, 2)]
        self.assertEqual(quarrel(told, rows), (0, 1, 2))
        self.assertEqual(quarrel(told, rows[:1] + rows), (0, 2, 3))
        for two in itertools.combinations(rows, 2):
            self.assertIsNone(quarrel(told, two))
        shown = [(program(show(name("x"))), (), ((("shown", one),), "ends")) for one in (2, 2, 1, 2, 0)]
        self.assertEqual(quarrel(told, shown), (0, 2))
        self.assertEqual(quarrel(told, [(program(show(name("x"))), (), ((("shown", 3),), "ends"))] + rows), (0,))

    def test_further_records_do_not_help(self):
        """FACT of [90]."""
        for told, records in cases(263, 60, 3):
            for at in range(1, len(records)):
                if deal(told, records) is not None:
                    self.assertIsNotNone(deal(told, records[:at]))

    def test_left_open(self):
        """FACT of [91]: an option is left exactly if the document with it alone lets the records."""
        counted = {True: 0, False: 0}
        for told, records in cases(264, 120, 3):
            for at, kind in enumerate(KINDS):
                if told[1 + at][0] != "ever":
                    with self.assertRaises(BadKind):
                        left_open(told, records, kind)
                    continue
                found = left_open(told, records, kind)
                fine = []
                for option in told[1 + at][1]:
                    alone = told[:1 + at] + (("ever", (option,)),) + told[2 + at:]
                    if deal(alone, records) is not None:
                        fine.append(option)
                    counted[option in fine] += 1
                self.assertEqual(found, tuple(fine), (told, records, kind))
        self.assertGreater(min(counted.values()), 20)
        told = document(order=("ever", BOTH), fill=("ever", (0, 3)))
        self.assertEqual(left_open(document=told, records=[LEFT], kind="order"), ("left",))
        self.assertEqual(left_open(told, [LEFT], "fill"), (0, 3))
        self.assertEqual(left_open(told, [LEFT, RIGHT], "fill"), ())
        for kind in STRANGE + ("walk", "scope"):
            with self.assertRaises(BadKind):
                left_open(told, [LEFT], kind)

    def test_nearly_records(self):
        checked = {True: 0, False: 0}
        told = document(fill=("anew", (0, 1)))
        for record in (LEFT, LATER, (program(show(ASK)), [3], ((("asked", 3), ("shown", 1)), "ends")),
                       (program(ASK), (1, 2), ((("asked", 1),), "waits")), (program(ASK), (1,), ((("asked", 1),), "waits"))):
            for other in [record] + [record[:1] + row for row in nearly(record[1:]) if type(row) is tuple] + [record[1:], record + (1,)]:
                fine = model_is_record(other)
                checked[fine] += 1
                if fine:
                    deal(told, [other])
                    continue
                for call in (lambda rows: deal(told, rows), lambda rows: quarrel(told, rows), lambda rows: is_deal(told, rows, ()),
                             lambda rows: left_open(told, rows, None)):
                    with self.assertRaises(BadRecords):
                        call([LEFT, other])
        self.assertGreater(min(checked.values()), 15)

    def test_no_record_and_many(self):
        told = document(order=("ever", BOTH))
        self.assertEqual(len(deal(told, [LEFT] * 8)), 8)
        for records in ([], (), [LEFT] * 9, LEFT, {LEFT: 1}, [list(LEFT)], [None]) + STRANGE:
            with self.assertRaises(BadRecords):
                deal(told, records)
            with self.assertRaises(BadDocument):
                deal(None, records)

    def test_nearly_deals(self):
        checked = {True: 0, False: 0}
        for told, records in cases(265, 25, 2):
            found = deal(told, records)
            if found is None:
                for other in STRANGE:
                    self.assertIs(is_deal(told, records, other), False)
                continue
            for other in nearly(found):
                fine = model_is_deal(told, records, other)
                self.assertIs(is_deal(told, records, other), fine, (told, records, other))
                checked[fine] += 1
        self.assertGreater(min(checked.values()), 20)

    def test_other_makers_are_let_too(self):
        told = document(order=("anew", BOTH))
        for options in (["left"], ["left", "right"], []):
            self.assertTrue(is_deal(told, [LEFT], (maker_of(told, PAIR, (None, "up", 0, 1), options),)))
        self.assertFalse(is_deal(told, [LEFT], (maker_of(told, PAIR, (None, "up", 0, 1), ["right"]),)))
        self.assertFalse(is_deal(told, [LEFT], [maker_of(told, PAIR, (None, "up", 0, 1), [])]))

    def test_makers_that_do_not_agree(self):
        """For ever is so for all programs, for a program, a part or a place in all runs of it."""
        makers = [maker_of(document(order=("ever", BOTH)), PAIR, (side, "up", 0, 1), []) for side in BOTH]
        for scope, same, others in (("ever", False, False), ("program", False, True), ("run", True, True)):
            told = document(order=(scope, BOTH))
            self.assertIs(is_deal(told, [LEFT, RIGHT], tuple(makers)), same)
            self.assertIs(is_deal(told, [LEFT, LATER], tuple(makers)), others)
            self.assertIs(is_deal(told, [LATER, LEFT], tuple(makers[::-1])), others)
            self.assertIs(is_deal(told, [LEFT, LEFT], (makers[0], makers[0])), True)

    def test_makers_whose_runs_are_other_ones(self):
        """A run that only begins as the record does not give it; a ruined one has to begin it by ahead."""
        one = ("maker", ("left", "up", 0, 1), ((),))
        ends = program(then(show(ONE), ZERO))
        ruined = program(then(show(ONE), ("over", ONE, ZERO, "left")))
        for thing, showing, ahead, whole in (
                (ends, ((("shown", 1),), "ends"), True, True), (ends, ((("shown", 1), ("shown", 1)), "ends"), False, False),
                (ends, ((("shown", 1),), "never"), False, False), (ends, ((), "more"), True, True), (ends, ((), "ends"), False, False),
                (ruined, ((("shown", 1), ("shown", 0)), "ends"), True, True), (ruined, ((("shown", 0), ("shown", 0)), "ends"), False, True),
                (ruined, ((("shown", 1),), "ends"), True, True), (ruined, ((), "never"), False, True), (ruined, ((), "more"), True, True)):
            for told, fine in ((document(), ahead), (document(ruin="whole"), whole)):
                self.assertIs(is_deal(told, [(thing, (), showing)], (one,)), fine, (thing, showing, told[5]))
                self.assertIs(deal(told, [(thing, (), showing)]) is not None, fine)

    def test_too_many_choices(self):
        record = (SUMS, (), ((), "ends"))
        for call in (lambda: deal(WIDE, [record]), lambda: quarrel(WIDE, [LEFT, record])):
            with self.assertRaises(TooMany) as caught:
                call()
            self.assertEqual(caught.exception.most, 400)
        ever = document(order=("place", BOTH), fill=("ever", (0, 1, 2)))
        with self.assertRaises(TooMany):
            left_open(ever, [record], "fill")
        with self.assertRaises(BadKind):
            left_open(ever, [record], "order")
        maker = ("maker", (("left",) * 8, "up", 0, 1), ((),))
        self.assertIs(is_deal(WIDE, [record], (maker,)), True)

    def test_kinds_together(self):
        """What is for ever is so in all programs, and each kind counts by itself."""
        thing = program(then(show(BIT), show(SWAY)), ("y",))
        record = (thing, (), ((("shown", 1), ("shown", 0)), "ends"))
        other = (thing, (), ((("shown", 1), ("shown", 1)), "ends"))
        for walk, fine in (("ever", False), ("run", True), ("anew", True), ("place", False)):
            told = document(("ever", BOTH), (walk, ("up", "down")))
            self.assertEqual(deal(told, [record, other]) is not None, fine)
            self.assertEqual(left_open(told, [record], "order"), ("left",))

    def test_a_later_ever_part(self):
        told = document(("ever", BOTH), fill=("run", (0, 1)))
        thing = program(then(show(name("x")), put("x", ONE)))
        found = deal(told, [(thing, (), ((("shown", 1),), "ends")), RIGHT])
        self.assertEqual([maker[1] for maker in found], [("right", "up", 1, 1), ("right", "up", 0, 1)])


if __name__ == "__main__":
    unittest.main()
