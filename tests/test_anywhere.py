"""Points [78] and [79]: pieces that are right in every context."""

import unittest

from anymaker.anywhere import right_anywhere
from anymaker.bases import swallowed
from anymaker.choices import choices
from anymaker.errors import TooMany
from anymaker.meanings import meaning, memories_of
from anymaker.pieces import filled, is_context, is_piece
from anymaker.rewriting import are_wrong_runs, right_program
from tests.samples import (ASK, BIT, OPERATIONS, SWAY, Maker, document, few_standings, name, number, program, put,
                           show, then)
from tests.test_pieces import nodes_of

ONE, ZERO = number(1), number(0)
ANY = program(ONE)
BOTH = ("left", "right")


def names_of(*pieces):
    return tuple(sorted({node[1] for piece in pieces for node in nodes_of(piece) if node[0] in ("name", "set", "each")}))


def by_width(one, two, three):
    """What it is at each of the three widths."""
    return ("if", number(4), three, ("if", number(2), two, one))


def model_tables(told, old, new):
    """The tables by [78], from meanings; None if they tell that new is wrong."""
    inner = swallowed(told)
    names = names_of(old, new)
    tables = []
    for choice in choices(inner, ANY):
        rows = []
        for memory in memories_of(2 ** choice[3], len(names)):
            mine = meaning(inner, new, names, choice, memory)
            others = meaning(inner, old, names, choice, memory)
            pairs = [(0, 0)]
            for one, other in pairs:
                if others[other] == ("free",):
                    continue
                if mine[one] == ("free",) or mine[one][1] and not others[other][1]:
                    return None
                ends, goes = dict(others[other][2]), dict(others[other][3])
                if any(not set(told_ones) <= set(ends.get(worth, ())) for worth, told_ones in mine[one][2]):
                    return None
                for event, reached in mine[one][3]:
                    if event not in goes:
                        return None
                    if (reached, goes[event]) not in pairs:
                        pairs.append((reached, goes[event]))
            rows.append(tuple(sorted(pairs)))
        tables.append(tuple(rows))
    return tuple(tables)


class Case(unittest.TestCase):
    def answer(self, told, old, new):
        """Whether new is right; what is told of it is checked."""
        found = right_anywhere(told, old, new)
        expected = model_tables(told, old, new)
        self.assertEqual(found[0] == "right", expected is not None, (told, old, new))
        if found[0] == "right":
            self.assertEqual(found, ("right", expected))
            return True
        word, context, base, runs = found
        self.assertTrue(is_context(context))
        both = filled(context, old), filled(context, new)
        self.assertTrue(are_wrong_runs(told, *both, base, runs), (told, old, new))
        for thing in both:
            self.assertLessEqual(sum(len(nodes_of(one)) for _, one in thing[2] + (("body", thing[3]),)), 120)
            self.assertTrue(few_standings(told, thing, 2000))
        return False


class ExampleTest(Case):
    """Point [79]."""

    bit = then(("plus", put("z", ZERO), put("z", ONE)), name("z"))
    told = document(order=("anew", BOTH), fill=("run", ("none",)))
    new = put("z", ZERO)

    def test_no_single_memory_covers(self):
        old = then(("if", self.bit, put("v", self.bit), put("w", self.bit)), put("z", ZERO))
        self.assertTrue(self.answer(self.told, old, self.new))
        self.assertEqual(len(right_anywhere(document=self.told, old=old, new=self.new)[1][0]), 27)

    def test_v_alone_would_not_do(self):
        for old in (then(put("v", self.bit), put("z", ZERO)),
                    then(("if", self.bit, put("v", self.bit), put("v", self.bit)), put("z", ZERO))):
            self.assertFalse(self.answer(self.told, old, self.new))


class FactTest(Case):
    """What [78] tells besides."""

    def test_right_as_a_program_and_not_as_a_piece(self):
        for ruin in ("ahead", "whole"):
            told = document(ruin=ruin)
            self.assertFalse(self.answer(told, put("x", ONE), ONE))
            self.assertEqual(right_program(told, program(put("x", ONE)), program(ONE))[0], "right")

    def test_x_minus_x(self):
        less = ("minus", name("x"), name("x"))
        for scope, back in (("ever", True), ("program", True), ("run", True), ("anew", False)):
            told = document(fill=(scope, (0, 1)))
            self.assertTrue(self.answer(told, less, ZERO))
            self.assertEqual(self.answer(told, ZERO, less), back)

    def test_sums_turned(self):
        one, other = ("plus", show(ZERO), show(ONE)), ("plus", show(ONE), show(ZERO))
        for scope in ("ever", "program", "run"):
            self.assertFalse(self.answer(document(order=(scope, BOTH)), one, other))
        self.assertTrue(self.answer(document(order=("anew", BOTH)), one, other))
        self.assertFalse(self.answer(document(order=("anew", ("left",))), one, other))

    def test_what_is_anew_may_be_pinned(self):
        told = document(("anew", BOTH), ("anew", ("up", "down")))
        old = ("plus", show(ZERO), ("each", "x", 0, 1, show(name("x"))))
        for way in BOTH:
            for walk in ("up", "down"):
                new = ("plus", show(ZERO), ("each", "x", 0, 1, show(name("x")), walk), way)
                self.assertTrue(self.answer(told, old, new))
                self.assertFalse(self.answer(told, new, old))
        still = document(("run", BOTH), ("anew", ("up", "down")))
        self.assertFalse(self.answer(still, old, old + ("left",)))

    def test_in_several_holes_loops_and_parts(self):
        told = document(("anew", BOTH), fill=("run", (0, "none")))
        old, new = ("plus", show(name("x")), show(ONE)), ("plus", show(ONE), show(name("x")), "right")
        self.assertTrue(self.answer(told, old, new))
        context = program(then(("call", "p"), ("while", ASK, then(("hole",), ("call", "p"))), show(("hole",))), ("x",),
                          (("p", then(put("x", ASK), ("hole",))),))
        self.assertEqual(right_program(told, filled(context, old), filled(context, new))[0], "right")

    def test_each_choice_ahead_is_shown_by_a_spare_variable(self):
        for scope in ("ever", "program", "run"):
            for told, old, news in (
                    (document(order=(scope, BOTH)), BIT, (then(put("y", ONE), ONE), then(put("y", ZERO), ZERO))),
                    (document(walk=(scope, ("up", "down"))), SWAY, (then(put("y", ONE), ONE), then(put("y", ZERO), ZERO))),
                    (document(fill=(scope, (0, 1))), name("x"), (ZERO, ONE)),
                    (document(width=(scope, (1, 2, 3))), number(7), (ONE, number(3))),
                    (document(width=(scope, (1, 3))), number(7), (ONE, number(3))),
                    (document(width=(scope, (2, 3))), number(7), (ONE, number(3))),
                    (document(width=(scope, (1, 2, 3))), ONE, (by_width(ZERO, ONE, ONE), by_width(ONE, ZERO, ONE),
                                                               by_width(ONE, ONE, ZERO)))):
                for ruin in ("ahead", "whole"):
                    for new in news:
                        self.assertFalse(self.answer(told[:5] + (ruin,), old, new))

    def test_all_at_once(self):
        told = document(("run", BOTH), ("program", ("up", "down")), ("run", (0, 1, 2)), ("run", (1, 2)), "whole")
        old = then(BIT, show(SWAY), name("x"))
        new = then(put("y", ("plus", BIT, ZERO)), show(SWAY), name("x"))
        self.assertTrue(self.answer(told, old, new))
        self.assertFalse(self.answer(told, old, then(BIT, show(SWAY), ("times", name("x"), name("x")))))

    def test_ruin_elsewhere_frees_nothing(self):
        """By right the old piece is ruined, by left the new one is wrong."""
        for scope in ("program", "run", "ever"):
            told = document(order=(scope, BOTH), ruin="whole")
            old = ("if", BIT, ONE, ("over", ONE, ZERO))
            self.assertFalse(self.answer(told, old, ("if", BIT, ZERO, ONE)))
            self.assertTrue(self.answer(told, old, ("if", BIT, ONE, show(ONE))))

    def test_none(self):
        for scope in ("ever", "program", "run", "anew"):
            for ruin in ("ahead", "whole"):
                told = document(fill=(scope, (0, "none")), ruin=ruin)
                self.assertTrue(self.answer(told, name("x"), then(name("x"), name("x"))))
                self.assertTrue(self.answer(told, then(name("x"), ONE), ONE))
                self.assertFalse(self.answer(told, ONE, then(name("x"), ONE)))
                self.assertEqual(self.answer(told, then(show(ONE), name("x")), then(name("x"), show(ONE), name("x"))),
                                 ruin == "whole")

    def test_by_ahead_runs_that_showed_less_free_nothing(self):
        """Old leaves x as it is behind (), and sets it to any worth behind 1; new leaves it behind 1, too."""
        for ruin, right in (("ahead", False), ("whole", True)):
            told = document(order=("anew", BOTH), fill=("run", ("none",)), ruin=ruin)
            old = ("if", BIT, then(put("y", ZERO), ONE), then(show(ONE), put("x", BIT), put("y", ZERO), ONE))
            new = ("if", BIT, then(put("y", ZERO), ONE), then(show(ONE), put("y", ZERO), ONE))
            self.assertEqual(self.answer(told, old, new), right)

    def test_each_fault_alone(self):
        told = document(order=("anew", BOTH))
        whole = document(order=("anew", BOTH), ruin="whole")
        for one in (told, whole):
            for old, new in ((then(put("y", ZERO), ZERO), ("while", BIT, ONE)), (ONE, ("while", ONE, ONE)),
                             (ONE, ("over", ONE, ZERO)), (ONE, show(ONE)), (show(ONE), ONE), (("while", ONE, ONE), ONE),
                             (ONE, ZERO), (show(ONE), show(ZERO)), (then(show(ONE), ONE), then(show(ONE), ZERO)),
                             (then(show(ONE), ONE), then(show(ONE), ("while", ONE, ONE))),
                             (then(show(ONE), ONE), then(show(ONE), ("over", ONE, ZERO)))):
                self.assertFalse(self.answer(one, old, new))
            self.assertTrue(self.answer(one, ("while", BIT, ONE), then(put("y", ZERO), ZERO)))
            self.assertTrue(self.answer(one, ("over", ONE, ZERO), ("while", ONE, show(ONE))))

    def test_several_items_to_peel(self):
        """Only where it puts 1 into v, old sets w."""
        bit = then(("plus", put("z", ZERO), put("z", ONE)), name("z"))
        one = ("if", bit, then(put("v", ZERO), ZERO), then(put("v", ONE), put("w", ONE), ZERO))
        end = then(put("z", ZERO), ZERO)
        for ruin in ("ahead", "whole"):
            told = document(("anew", BOTH), fill=("run", ("none",)), ruin=ruin)
            for rows, right in (([put("v", ONE)], False), ([put("v", ZERO)], True), ([put("v", ONE), put("w", ONE)], True),
                                ([put("v", ONE), put("w", ZERO)], False), ([put("v", ZERO), put("w", ZERO)], False), ([], False)):
                self.assertEqual(self.answer(told, then(one, end), then(*rows, end)), right, rows)

    def test_what_goes_of_the_memories_beside(self):
        bit = then(("plus", put("z", ZERO), put("z", ONE)), name("z"))
        end = then(put("z", ZERO), ZERO)
        told = document(("anew", BOTH), fill=("run", ("none",)), ruin="whole")
        for beside, right in ((ZERO, False), (ONE, True)):
            old = ("if", bit, then(show(ONE), put("v", beside), end), then(put("v", ONE), put("w", bit), end))
            self.assertEqual(self.answer(told, old, then(put("v", ONE), end)), right)

    def test_what_stays_of_the_memories_beside(self):
        """Old leaves w unset where it has shown 1: so w must not be looked at."""
        bit = then(("plus", put("v", ZERO), put("v", ONE)), name("v"))
        told = document(("anew", BOTH), fill=("run", ("none",)), ruin="whole")
        old = ("if", bit, then(show(ONE), put("v", ONE), put("x", ZERO), ZERO),
               then(put("v", ONE), put("w", ONE), put("x", ONE), ZERO))
        self.assertFalse(self.answer(told, old, then(put("v", ONE), put("x", ZERO), ZERO)))
        self.assertTrue(self.answer(told, old, then(put("v", ONE), put("w", ONE), put("x", ONE), ZERO)))

    def test_items_that_read_alike_do_not_tell(self):
        for fill, old, new in (
                (("run", (0,)), then(put("v", ZERO), put("w", ZERO), ONE), then(put("v", ONE), ONE)),
                (("run", (0,)), then(put("w", ZERO), put("v", ZERO), ONE), then(put("w", ONE), ONE)),
                (("anew", (0, 1)), then(put("v", ZERO), ONE), then(put("v", ONE), put("w", ONE), ONE)),
                (("anew", (0, 1)), then(put("w", ZERO), ONE), then(put("w", ONE), put("v", ONE), ONE)),
                (("anew", (0, 1)), then(put("v", ONE), put("w", ONE), ONE), then(put("v", ONE), ONE))):
            for ruin in ("ahead", "whole"):
                self.assertFalse(self.answer(document(fill=fill, ruin=ruin), old, new))

    def test_right_for_itself(self):
        for piece in (BIT, SWAY, name("x"), ("over", name("x"), name("y")), ("while", name("x"), show(name("y")))):
            for fill in ((0,), (0, 1), (1, "none")):
                for scope in ("ever", "run", "anew"):
                    self.assertTrue(self.answer(document(("run", BOTH), fill=(scope, fill)), piece, piece))

    def test_more_than_three_variables(self):
        one, other = then(name("a"), name("b")), then(name("c"), name("d"))
        with self.assertRaises(TooMany) as caught:
            right_anywhere(document(), one, other)
        self.assertEqual(caught.exception.most, 3)
        self.assertFalse(self.answer(document(), one, then(name("a"), put("c", ONE), name("b"))))

    def test_three_variables(self):
        told = document(fill=("anew", (0, 1)))
        old = then(put("a", name("b")), name("c"))
        self.assertTrue(self.answer(told, old, old))
        self.assertFalse(self.answer(told, old, then(put("a", name("c")), name("c"))))
        self.assertTrue(self.answer(told, old, then(put("a", name("b")), name("c"), name("c"))))


def piece_of(maker, depth):
    while True:
        piece = maker.expression(depth, ("x", "y"), asks=False, pins=False, loops=maker.random.random() < 0.2)
        if is_piece(piece):
            return piece


def changed(maker, piece):
    """A piece that is often right for this one, or nearly so."""
    rows = [then(number(1), piece), then(name("x"), piece), ("plus", piece, ZERO), ("plus", ZERO, piece),
            ("if", name("y"), piece, piece), then(put("x", ONE), piece), ("plus", name("x"), piece), piece_of(maker, 2)]
    if piece[0] in OPERATIONS and len(piece) == 3:
        rows.append((piece[0], piece[2], piece[1]))
    return maker.some(rows)


def context_of(maker, names):
    """A context with one or two holes, in a part perhaps."""
    while True:
        thing = maker.program(depth=3, names=names, pins=False, loops=maker.random.random() < 0.3)
        body = then(*[put(one, number(maker.some((0, 1)))) for one in names if maker.random.random() < 0.3],
                    maker.some((("hole",), ("if", name("x"), ("hole",), thing[3]), ("while", ASK, ("hole",)),
                                then(("hole",), thing[3], ("hole",)), ("plus", ("hole",), thing[3]))), thing[3])
        context = thing[:3] + (body,)
        if is_context(context):
            return context


class ManyTest(Case):
    def cases(self, seed, many):
        maker = Maker(seed)
        for _ in range(many):
            told = maker.document(scopes=("ever", "program", "run", "anew"), widths=maker.some(((1,), (1, 2))), most=2)
            old = piece_of(maker, maker.some((2, 3)))
            new = changed(maker, old)
            yield (maker, told) + maker.some(((old, new), (new, old)))

    def test_one_meaning(self):
        """Each of two is right for the other just if their meanings are equal."""
        found = {True: 0, False: 0}
        for _, told, old, new in self.cases(71, 120):
            inner, names = swallowed(told), names_of(old, new)
            equal = all(meaning(inner, old, names, choice, memory) == meaning(inner, new, names, choice, memory)
                        for choice in choices(inner, ANY) for memory in memories_of(2 ** choice[3], len(names)))
            self.assertEqual(self.answer(told, old, new) and self.answer(told, new, old), equal)
            found[equal] += 1
        self.assertGreater(min(found.values()), 20)

    def test_what_is_right_is_so_in_contexts(self):
        tried = 0
        for maker, told, old, new in self.cases(72, 120):
            if not self.answer(told, old, new):
                continue
            for _ in range(4):
                context = context_of(maker, ("x", "y", "s"))
                both = filled(context, old), filled(context, new)
                if all(few_standings(told, one, 200) for one in both):
                    self.assertEqual(right_program(told, *both)[0], "right", (told, old, new, context))
                    tried += 1
        self.assertGreater(tried, 100)

    def test_lots_of_memories(self):
        """Old leaves one of several memories behind, new one of fewer."""
        maker = Maker(73)
        memories = [(v, w) for v in (None, 0, 1) for w in (None, 0, 1)]
        bit = then(("plus", put("z", ZERO), put("z", ONE)), name("z"))
        fills = (("run", ("none",)), ("anew", (0, 1)), ("anew", (1, "none")), ("ever", (0, "none")), ("anew", (0, 2)),
                 ("program", (0, 1)), ("run", (1, "none")))

        def setting():
            memory, shown = maker.some(memories), maker.some((None, None, 0, 1))
            rows = [put(one, number(worth)) for one, worth in zip(("v", "w"), memory) if worth is not None]
            return then(*rows, *([] if shown is None else [show(number(shown))]), put("z", ZERO))

        found = {True: 0, False: 0}
        for _ in range(150):
            told = document(("anew", BOTH), fill=maker.some(fills), ruin=maker.some(("ahead", "whole")),
                            width=("run", maker.some(((1,), (2,)))))
            rows = [setting() for _ in range(maker.some((1, 2, 3)))]
            new = maker.some(rows + [setting()])
            old = rows[0]
            for one in rows[1:]:
                old = ("if", bit, one, old)
            found[self.answer(told, old, new)] += 1
        self.assertGreater(min(found.values()), 20)


if __name__ == "__main__":
    unittest.main()
