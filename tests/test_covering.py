"""Point [76]: what a lot of memories covers."""

import itertools
import unittest

from anymaker.covering import covers
from anymaker.meanings import memories_of
from tests.samples import document

PAIRS = [(a, b) for a in (None, 0, 1) for b in (None, 0, 1)]


def by_fill(fill, scope="run", width=1):
    """A document and a choice with this fill, or with these anew."""
    if scope == "anew":
        return document(fill=("anew", fill), width=("run", (width,))), ("left", "up", None, width)
    return document(fill=(scope, (fill,)), width=("run", (width,))), ("left", "up", fill, width)


def is_covered(told, memory, lot, beside=()):
    return covers(told[0], told[1], memory, lot, beside)


def reads(told, memory, at):
    """What reading an item may give."""
    if memory[at] is not None:
        return [memory[at]]
    fills = told[0][3][1] if told[1][2] is None else (told[1][2],)
    return [fill if fill == "none" else fill % 2 for fill in fills]


def outcomes(told, memory, tests):
    """What a piece comes to that reads items one behind another: 1 if all are as the tests tell, else 0."""
    found = set()
    passing = True
    for at, number in tests:
        given = reads(told, memory, at)
        if "none" in given:
            found.add("ruined")
        if any(one not in ("none", number) for one in given):
            found.add(0)
        if number not in given:
            passing = False
            break
    return found | ({1} if passing else set())


class CoverTest(unittest.TestCase):
    def test_one_fill(self):
        told = by_fill(1)
        self.assertIs(is_covered(told, (None, 0), [(1, 0)]), True)
        self.assertIs(is_covered(told, (1, 0), [(None, 0)]), True)
        self.assertIs(is_covered(told, (0, 0), [(None, 0)]), False)
        self.assertIs(is_covered(told, (1, 1), [(1, 0), (0, 1)]), False)
        self.assertIs(covers(document=told[0], choice=told[1], memory=(1, None), lot=((0, 0), (None, 1)), beside=[]), True)

    def test_several_fills(self):
        told = by_fill((0, 2), "anew", 2)
        self.assertTrue(is_covered(told, (0,), [(None,)]))
        self.assertTrue(is_covered(told, (2,), [(None,)]))
        self.assertFalse(is_covered(told, (1,), [(None,)]))
        self.assertFalse(is_covered(told, (None,), [(0,), (2,)]))
        self.assertTrue(is_covered(told, (None,), [(None,)]))
        self.assertFalse(is_covered(told, (0, 2), [(None, 1), (1, None)]))
        self.assertTrue(is_covered(told, (0, 2), [(None, 1), (None, 2)]))

    def test_fills_modulo_the_width(self):
        self.assertTrue(is_covered(by_fill((0, 2), "anew", 1), (None,), [(0,)]))
        self.assertFalse(is_covered(by_fill((0, 2), "anew", 2), (None,), [(0,)]))
        self.assertTrue(is_covered(by_fill(3, "run", 1), (None,), [(1,)]))
        self.assertFalse(is_covered(by_fill(3, "run", 2), (None,), [(1,)]))
        self.assertTrue(is_covered(by_fill((1, 2), "anew", 1), (0, 1), [(None, None)]))

    def test_none_alone_and_beside_numbers(self):
        for told in (by_fill("none"), by_fill("none", "ever"), by_fill((0, 1, "none"), "anew"), by_fill(("none",), "anew")):
            self.assertTrue(is_covered(told, (None, None), [(0, None), (None, 0)]))
            self.assertFalse(is_covered(told, (None,), [(0,)]))
            self.assertFalse(is_covered(told, (None, None), [(0, None), (1, None)]))
            self.assertTrue(is_covered(told, (0, None), [(0, None), (1, 0)]))
            self.assertTrue(is_covered(told, (0, 1), [(0, None), (1, 0)]))
            self.assertFalse(is_covered(told, (0, 1), [(0, 0), (1, 1)]))
            self.assertTrue(is_covered(told, (None,), [(None,), (0,)]))

    def test_peeling_by_hand(self):
        """v and w of point [79]: neither is set in all four."""
        told = by_fill("none")
        lot = [(0, None, 0), (1, None, 0), (None, 0, 0), (None, 1, 0)]
        self.assertTrue(is_covered(told, (None, None, 0), lot))
        self.assertFalse(is_covered(told, (None, None, 1), lot))
        self.assertFalse(is_covered(told, (None, None, None), lot))
        self.assertFalse(is_covered(told, (None, None, 0), lot[:2]))

    def test_what_goes_lets_more_peel(self):
        told = by_fill("none")
        lot = [(0, None), (1, 1)]
        self.assertTrue(is_covered(told, (0, None), lot))
        self.assertFalse(is_covered(told, (1, None), lot))
        self.assertFalse(is_covered(told, (1, 0), lot))
        self.assertTrue(is_covered(told, (1, 1), lot))

    def test_beside(self):
        told = by_fill("none")
        self.assertFalse(is_covered(told, (None,), [(0,)], [(1,)]))
        self.assertTrue(is_covered(told, (None,), [(0,)], [(None,)]))
        self.assertTrue(is_covered(told, (1,), [(0,)], [(None,)]))
        self.assertFalse(is_covered(told, (1, 0), [(0, 0)], [(1, None)]))
        self.assertTrue(is_covered(told, (0, 1), [(0, 0)], [(0, None)]))
        self.assertFalse(is_covered(told, (0, 1), [(0, 0)], [(1, None)]))
        number = by_fill(0)
        self.assertFalse(is_covered(number, (1,), [(0,)], [(None,), (1,)]))

    def test_an_empty_lot_covers_nothing(self):
        for told in (by_fill(0), by_fill((0, 1), "anew"), by_fill("none")):
            for memory in ((), (None,), (0, 1)):
                self.assertFalse(is_covered(told, memory, []))
                self.assertFalse(is_covered(told, memory, (), [memory]))

    def test_no_names(self):
        for told in (by_fill(0), by_fill((0, 1), "anew"), by_fill("none")):
            self.assertTrue(is_covered(told, (), [()]))

    def test_the_order_of_items_means_nothing(self):
        told = by_fill("none")
        for lot in itertools.combinations(PAIRS, 2):
            for memory in PAIRS:
                for beside in ((), ((None, 1),), ((1, 1),)):
                    turned = is_covered(told, memory[::-1], [one[::-1] for one in lot], [one[::-1] for one in beside])
                    self.assertEqual(is_covered(told, memory, lot, beside), turned)

    def test_covered_by_what_is_covered(self):
        for told in (by_fill(1), by_fill((0, 1), "anew"), by_fill("none")):
            lots = [lot for many in (1, 2) for lot in itertools.combinations(PAIRS, many)]
            for lot in lots[::3]:
                inner = [memory for memory in PAIRS if is_covered(told, memory, lot)]
                self.assertEqual([memory for memory in PAIRS if is_covered(told, memory, inner)], inner)

    def test_just_what_pieces_tell(self):
        """The HEART of [76], over pieces that read items and compare them."""
        tests = [row for many in range(1, 5) for row in itertools.product([(0, 0), (0, 1), (1, 0), (1, 1)], repeat=many)]
        for told in (by_fill(0), by_fill(1), by_fill((0, 1), "anew"), by_fill((1, 3), "anew"), by_fill("none")):
            table = {memory: [outcomes(told, memory, row) for row in tests] for memory in PAIRS}
            for many in (1, 2, 3):
                for lot in itertools.combinations(PAIRS, many):
                    rows = [set().union(*[table[one][at] for one in lot]) for at in range(len(tests))]
                    for memory in PAIRS:
                        shown = all("ruined" in row or table[memory][at] <= row for at, row in enumerate(rows))
                        self.assertEqual(is_covered(told, memory, lot), shown, (told, memory, lot))

    def test_all_memories(self):
        self.assertEqual(memories_of(2, 2), [(a, b) for a in (None, 0, 1) for b in (None, 0, 1)])


if __name__ == "__main__":
    unittest.main()
