"""Points [75] and [77]: results and meanings of pieces."""

import unittest

from anymaker.choices import choices
from anymaker.covering import covers
from anymaker.meanings import meaning, memories_of
from tests import model
from tests.samples import BIT, Maker, document, name, number, program, put, show, then

ONE, ZERO = number(1), number(0)
STILL = ("left", "up", 0, 1)
ANY = program(ONE)


def model_rows(told, piece, names, choice, memory, most):
    """What is so behind all events, at most so many, straight from [77]."""
    thing = ("program", names, (), piece)
    start = (model.placed(thing, "body"), memory)
    every = model.standings(told, thing, choice, start)
    if told[5] == "whole" and any(model.ruinous(model.moves(told, thing, choice, one)) for one in every):
        return {(): ("free",)}
    beside = results(told, thing, choice, every) if told[5] == "whole" else {}
    found = {}

    def go(events):
        lot = model.lot_behind(told, thing, choice, events, start)
        moves = [model.moves(told, thing, choice, one) for one in lot]
        if any(model.ruinous(move) for move in moves):
            found[events] = ("free",)
            return
        ends = results(told, thing, choice, lot)
        rows = tuple((worth, tuple(
            one for one in memories_of(2 ** choice[3], len(names))
            if covers(told, choice, one, ends[worth], beside.get(worth, [])))) for worth in sorted(ends))
        events_now = sorted({event for move in moves for event, _ in model.eventful(move)})
        found[events] = ("so", model.has_round(told, thing, choice, lot), rows, tuple(events_now))
        if len(events) < most:
            for event in events_now:
                go(events + (event,))
    go(())
    return found


def results(told, thing, choice, lot):
    found = {}
    for standing in lot:
        move = model.moves(told, thing, choice, standing)
        if move[0] == "ends":
            found.setdefault(move[1], []).append(standing[1])
    return found


def unfolded(rows, most):
    found = {}

    def go(row, events):
        if rows[row] == ("free",):
            found[events] = ("free",)
            return
        word, never, ends, nexts = rows[row]
        found[events] = (word, never, ends, tuple(event for event, _ in nexts))
        if len(events) < most:
            for event, reached in nexts:
                go(reached, events + (event,))
    go(0, ())
    return found


class MeaningTest(unittest.TestCase):
    def test_by_hand(self):
        self.assertEqual(meaning(document(), ONE, (), STILL, ()), (("so", False, ((1, ((),)),), ()),))
        self.assertEqual(meaning(document=document(), piece=show(name("x")), names=("x",), choice=STILL, memory=(None,)), (
            ("so", False, (), ((("shown", 0), 1),)), ("so", False, ((0, ((None,), (0,))),), ())))
        self.assertEqual(meaning(document(), ("while", ONE, ONE), (), STILL, ()), (("so", True, (), ()),))
        self.assertEqual(meaning(document(), ("while", ONE, show(ONE)), (), STILL, ()),
                         (("so", False, (), ((("shown", 1), 0),)),))

    def test_spare_names(self):
        found = meaning(document(), put("b", ONE), ("a", "b"), STILL, (1, None))
        self.assertEqual(found, (("so", False, ((1, ((1, 1),)),), ()),))

    def test_free_rows(self):
        piece = then(show(ONE), ("over", ONE, ZERO))
        self.assertEqual(meaning(document(), piece, (), STILL, ()), (
            ("so", False, (), ((("shown", 1), 1),)), ("free",)))
        self.assertEqual(meaning(document(ruin="whole"), piece, (), STILL, ()), (("free",),))
        told = document(order=("anew", ("left", "right")))
        piece = ("if", then(("plus", put("y", ZERO), put("y", ONE)), name("y")), ("over", ONE, ZERO), show(ONE))
        self.assertEqual(meaning(told, piece, ("y",), (None, "up", 0, 1), (0,)), (("free",),))

    def test_worths_ascend_and_memories_are_those_that_are_covered(self):
        told = document(("anew", ("left", "right")), fill=("anew", (0, 1)))
        found = meaning(told, BIT, ("y",), (None, "up", None, 1), (None,))
        self.assertEqual(found, (("so", False, ((0, ((0,),)), (1, ((1,),))), ()),))
        found = meaning(told, name("x"), ("x",), (None, "up", None, 1), (None,))
        self.assertEqual(found, (("so", False, ((0, ((None,), (0,), (1,))), (1, ((None,), (0,), (1,)))), ()),))

    def test_no_single_memory(self):
        told = document(("anew", ("left", "right")), fill=("run", ("none",)))
        piece = then(("if", BIT, put("v", ONE), put("w", ONE)), put("y", ZERO))
        found = meaning(told, piece, ("v", "w", "y"), (None, "up", "none", 1), (None, None, None))
        self.assertEqual(found, (("so", False, (
            (0, tuple((v, w, 0) for v in (None, 0, 1) for w in (None, 0, 1))),), ()),))

    def test_by_whole_beside_all_with_the_worth(self):
        piece = ("if", BIT, then(show(ONE), put("y", ZERO)), then(put("v", ONE), put("y", ZERO)))
        rows = {}
        for ruin in ("ahead", "whole"):
            told = document(("anew", ("left", "right")), fill=("run", ("none",)), ruin=ruin)
            rows[ruin] = meaning(told, piece, ("v", "y"), (None, "up", "none", 1), (None, None))[0][2]
        self.assertEqual(rows["ahead"], ((0, ((1, 0),)),))
        self.assertEqual(rows["whole"], ((0, ((None, 0), (0, 0), (1, 0))),))

    def test_alike_rows_are_one(self):
        piece = ("if", show(name("x")), show(ONE), show(number(3)))
        told = document(fill=("anew", (0, 1)))
        found = meaning(told, piece, ("x",), ("left", "up", None, 1), (None,))
        self.assertEqual(found[0][3], ((("shown", 0), 1), (("shown", 1), 1)))
        self.assertEqual(len(found), 3)

    def test_a_row_that_leads_to_row_0(self):
        told = document(fill=("anew", (0, 1)))
        piece = ("while", ONE, ("if", name("x"), show(ONE), ONE))
        found = meaning(told, piece, ("x",), ("left", "up", None, 1), (None,))
        self.assertEqual(found, (("so", True, (), ((("shown", 1), 0),)),))
        piece = ("while", ONE, ("if", name("x"), then(show(ONE), show(ZERO), ONE), ONE))
        found = meaning(told, piece, ("x",), ("left", "up", None, 1), (None,))
        self.assertEqual(found, (("so", True, (), ((("shown", 1), 1),)), ("so", False, (), ((("shown", 0), 0),))))

    def test_many(self):
        maker = Maker(61)
        words = set()
        for _ in range(150):
            told = maker.document(scopes=("ever", "program", "run", "anew"), widths=(1, 2))
            piece = maker.expression(3, ("x", "y"), asks=False, pins=False, loops=maker.random.random() < 0.4)
            choice = maker.some(choices(told, ANY))
            memory = maker.some(memories_of(2 ** choice[3], 2))
            rows = meaning(told, piece, ("x", "y"), choice, memory)
            self.assertEqual(unfolded(rows, 2), model_rows(told, piece, ("x", "y"), choice, memory, 2))
            self.check_least(rows)
            words.update((row[0], len(row) > 1 and row[1]) for row in rows)
        self.assertEqual(words, {("free", False), ("so", False), ("so", True)})

    def check_least(self, rows):
        met = [0]
        for at in met:
            for _, reached in () if rows[at] == ("free",) else rows[at][3]:
                if reached not in met:
                    met.append(reached)
        self.assertEqual(met, list(range(len(rows))))
        heads = [unfolded_from(rows, at, len(rows)) for at in range(len(rows))]
        self.assertEqual(len(heads), len(set(heads)))


def unfolded_from(rows, at, depth):
    """What is so behind a row, as far as so many events tell."""
    if rows[at] == ("free",) or depth == 0:
        return rows[at][:3]
    return rows[at][:3] + tuple((event, unfolded_from(rows, reached, depth - 1)) for event, reached in rows[at][3])


if __name__ == "__main__":
    unittest.main()
