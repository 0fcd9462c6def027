"""Points [81] to [83]: before, needs, tests and guards of pieces."""

import itertools
import unittest

from anymaker.befores import before
from anymaker.errors import BadMemory
from anymaker.expressions import is_expression
from anymaker.guards import guard, tests
from anymaker.ruins import ruin
from anymaker.runs import run
from anymaker.sureness import as_sure, needs
from anymaker.terms import is_terms
from anymaker.trees import nodes_of
from tests import model
from tests.nearly import STRANGE, nearly
from tests.samples import ASK, Maker, document, name, number, program, put, show, then

ONE = number(1)
ZERO = number(0)
TERMS = (("left", "right"), ("up", "down"), (0, 1), 1)


def memories(size, many):
    return list(itertools.product([None] + list(range(size)), repeat=many))


def rank(memory):
    return tuple(-1 if worth is None else worth for worth in memory)


def all_pairs(size, many):
    return {(worth, memory) for worth in range(size) for memory in memories(size, many)}


class Text:
    """Before by the text, as the last sentence of [81] tells it."""

    def __init__(self, terms, names):
        self.order, self.walk, self.fill, width = terms
        self.size = 2 ** width
        self.names = names
        self.every = memories(self.size, len(names))

    def put(self, memory, x, worth):
        at = self.names.index(x)
        return memory[:at] + (worth,) + memory[at + 1:]

    def pairs(self, test):
        return {(worth, memory) for worth in range(self.size) for memory in self.every if test(worth, memory)}

    def before(self, e, ends):
        """B(e, S)."""
        head = e[0]
        if head == "number":
            return {memory for memory in self.every if (e[1] % self.size, memory) in ends}
        if head == "ask":
            return {memory for memory in self.every if all((n % self.size, memory) in ends for n in range(8))}
        if head == "name":
            return {memory for memory in self.every if self.reads(e[1], memory, ends)}
        if head == "set":
            return self.before(e[2], self.pairs(lambda a, memory: (a, self.put(memory, e[1], a)) in ends))
        if head == "show":
            return self.before(e[1], ends)
        if head == "then":
            last = self.before(e[2], ends)
            return self.before(e[1], self.pairs(lambda a, memory: memory in last))
        if head == "if":
            yes, no = self.before(e[2], ends), self.before(e[3], ends)
            return self.before(e[1], self.pairs(lambda a, memory: memory in (yes if a else no)))
        if head == "while":
            return self.loop(e, ends)
        if head == "each":
            found = [self.before(self.written(e, way), ends) for way in (e[5:] or self.walk)]
        else:
            found = [self.worked(e, side, ends) for side in (e[3:] or self.order)]
        return set.intersection(*found)

    def reads(self, x, memory, ends):
        worth = memory[self.names.index(x)]
        if worth is not None:
            return (worth, memory) in ends
        return all(fill != "none" and (fill % self.size, memory) in ends for fill in self.fill)

    def written(self, e, way):
        turns = range(e[2], e[3] + 1)
        rows = [("then", ("set", e[1], ("number", at)), e[4]) for at in (turns if way == "up" else reversed(turns))]
        return then(*rows, ZERO)

    def worked(self, e, side, ends):
        def means(a, b, memory):
            if e[0] == "over" and b == 0:
                return False
            worth = {"plus": a + b, "minus": a - b, "times": a * b, "same": int(a == b), "less": int(a < b),
                     "over": a // b if b else 0}[e[0]] % self.size
            return (worth, memory) in ends
        first, last = (e[1], e[2]) if side == "left" else (e[2], e[1])
        rows = {}
        for a in range(self.size):
            rows[a] = self.before(last, self.pairs(
                lambda b, memory: means(a, b, memory) if side == "left" else means(b, a, memory)))
        return self.before(first, self.pairs(lambda a, memory: memory in rows[a]))

    def loop(self, e, ends):
        left = set(self.every)
        while True:
            body = self.before(e[2], self.pairs(lambda a, memory: memory in left))
            less = self.before(e[1], self.pairs(lambda a, memory: memory in body if a else (0, memory) in ends))
            if less == left:
                return left
            left = less


def pieces(seed, many, names, depth=3):
    maker = Maker(seed)
    while many:
        piece = maker.expression(depth, names)
        if not any(node[0] == "name" and len(node) == 3 for _, node in nodes_of(piece)):
            many -= 1
            yield maker, piece


def some_terms(maker, widths=(1, 2), fills=(0, 1, 2, 3, "none"), most=2):
    return (maker.options(("left", "right"), 2), maker.options(("up", "down"), 2), maker.options(fills, most),
            maker.some(widths))


class TermsTest(unittest.TestCase):
    def test_terms(self):
        for thing in (TERMS, (("left",), ("down",), (0, 2, "none"), 3), (("right",), ("up",), ("none",), 2)):
            self.assertIs(is_terms(thing=thing), True)
        for thing in (TERMS[:3], TERMS + (1,), list(TERMS), ((),) + TERMS[1:], (("right", "left"),) + TERMS[1:],
                      (["left"],) + TERMS[1:], (("up",),) + TERMS[1:], TERMS[:3] + (4,), TERMS[:3] + (True,),
                      TERMS[:3] + ((1,),), TERMS[:2] + ((4,), 1), TERMS[:2] + ((False,), 1), TERMS[:2] + ((0, 0), 1)):
            self.assertIs(is_terms(thing), False)

    def test_nearly_right(self):
        for terms in (TERMS, (("left",), ("down",), (0, 2, "none"), 3), (("right",), ("up",), (1,), 1)):
            for other in nearly(terms):
                expected = (type(other) is tuple and len(other) == 4 and type(other[3]) is int and other[3] in (1, 2, 3)
                            and all(self.is_row(row, every) for row, every in
                                    zip(other, (("left", "right"), ("up", "down"), (0, 1, 2, 3, "none")))))
                self.assertIs(is_terms(other), expected, other)
        for thing in STRANGE:
            self.assertIs(is_terms(thing), False)

    def is_row(self, row, every):
        if type(row) is not tuple or not row or not all(type(one) in (int, str) and one in every for one in row):
            return False
        return all(every.index(a) < every.index(b) for a, b in zip(row, row[1:]))


class BeforeTest(unittest.TestCase):
    def test_ordinary(self):
        division = ("over", ONE, name("x"))
        every = tuple(sorted(all_pairs(2, 1), key=lambda pair: (pair[0], rank(pair[1]))))
        self.assertEqual(before(TERMS, ("x",), division, every), ((1,),))
        self.assertEqual(before((("left",), ("up",), (1,), 1), ("x",), division, every), ((None,), (1,)))
        self.assertEqual(before((("left",), ("up",), (3,), 1), ("x",), division, every), ((None,), (1,)))
        self.assertEqual(before((("left",), ("up",), (1, "none"), 1), ("x",), division, every), ((1,),))
        self.assertEqual(before(TERMS, ("x",), division, ()), ())
        self.assertEqual(before(terms=TERMS, names=("x",), piece=put("x", ASK), ends=((0, (0,)),)), ())
        self.assertEqual(before(TERMS, ("x",), put("x", name("x")), ((0, (0,)),)), ((0,),))

    def test_loops_that_never_end_are_harmless(self):
        self.assertEqual(before(TERMS, ("x",), ("while", ONE, ONE), ()), ((None,), (0,), (1,)))
        self.assertEqual(before(TERMS, ("x",), ("while", name("x"), ONE), ()), ((1,),))
        self.assertEqual(before(TERMS, ("x",), ("while", name("x"), ONE), ((0, (None,)), (0, (0,)))), ((None,), (0,), (1,)))
        self.assertEqual(before(TERMS, ("x",), ("while", name("x"), put("x", name("x"))), ((0, (0,)),)), ((0,), (1,)))
        self.assertEqual(before(TERMS, ("x",), ("while", ONE, ("over", ONE, name("x"))), ()), ((1,),))

    def test_worths_and_memories_behind(self):
        piece = put("x", ("plus", name("x"), ONE))
        terms = (("left",), ("up",), (0, 3), 2)
        self.assertEqual(before(terms, ("x",), piece, ((0, (0,)),)), ((3,),))
        self.assertEqual(before(terms, ("x",), piece, ((0, (0,)), (1, (1,)))), ((None,), (0,), (3,)))
        self.assertEqual(before(terms, ("x",), piece, ((0, (1,)), (1, (0,)))), ())
        self.assertEqual(before(terms, ("x", "y"), piece, ((2, (2, None)), (2, (2, 3)))), ((1, None), (1, 3)))

    def test_by_the_text(self):
        found = {"none": 0, "some": 0, "all": 0}
        for names, seed, many in ((("x",), 71, 150), (("x", "y"), 72, 120), (("y", "x"), 73, 40), (("a", "b", "x"), 74, 25)):
            for maker, piece in pieces(seed, many, names):
                terms = some_terms(maker, (1, 2) if len(names) < 3 else (1,))
                text = Text(terms, names)
                every = sorted(all_pairs(text.size, len(names)), key=lambda pair: (pair[0], rank(pair[1])))
                for ends in (every, [], [pair for pair in every if maker.random.random() < 0.8],
                             [pair for pair in every if pair[0] == 0]):
                    told = before(terms, names, piece, tuple(ends))
                    self.assertEqual(set(told), text.before(piece, set(ends)), (terms, names, piece, ends))
                    self.assertEqual(list(told), sorted(told, key=rank))
                    many_ = len(told)
                    found["none" if not many_ else "all" if many_ == len(text.every) else "some"] += 1
        self.assertGreater(min(found.values()), 100)

    def test_by_runs(self):
        """A memory is before just if no standing that comes from it is ruined or ends otherwise."""
        for maker, piece in pieces(75, 60, ("x", "y"), 2):
            terms = some_terms(maker)
            told = document(("anew", terms[0]), ("anew", terms[1]), ("anew", terms[2]), ("run", (terms[3],)))
            thing = program(piece, ("x", "y"))
            size = 2 ** terms[3]
            every = sorted(all_pairs(size, 2), key=lambda pair: (pair[0], rank(pair[1])))
            ends = [pair for pair in every if maker.random.random() < 0.7]
            fine = before(terms, ("x", "y"), piece, tuple(ends))
            for memory in memories(size, 2):
                start = (model.placed(thing, "body"), memory)
                rows = model.standings(told, thing, (None, None, None, terms[3]), start)
                moves = [(model.moves(told, thing, (None, None, None, terms[3]), one), one[1]) for one in rows]
                good = not any(model.ruinous(move) for move, _ in moves)
                good = good and all((move[1], behind) in ends for move, behind in moves if move[0] == "ends")
                self.assertEqual(memory in fine, good)

    def test_wide_worths_of_three_names(self):
        terms = (("left", "right"), ("up",), (0, "none"), 3)
        piece = ("over", name("x"), ("minus", name("y"), name("z")))
        every = tuple(sorted(all_pairs(8, 3), key=lambda pair: (pair[0], rank(pair[1]))))
        told = before(terms, ("x", "y", "z"), piece, every)
        self.assertEqual(len(told), 8 * 8 * 7)
        self.assertNotIn((1, 2, 2), told)
        self.assertEqual(needs(terms, ("x", "y", "z"), piece), told)


class SureTest(unittest.TestCase):
    def fills(self, fill, width=2):
        return (("left",), ("up",), fill, width)

    def test_item_by_item(self):
        for fill, width, rows in (
                ((0, 1), 2, {(None, None), (0, 0), (1, 1), (2, 2), (3, 3), (0, None), (1, None)}),
                ((0,), 1, {(None, None), (0, 0), (1, 1), (0, None), (None, 0)}),
                ((1, 3), 1, {(None, None), (0, 0), (1, 1), (1, None), (None, 1)}),
                ((2,), 1, {(None, None), (0, 0), (1, 1), (0, None), (None, 0)}),
                ((2, 3), 1, {(None, None), (0, 0), (1, 1), (1, None), (0, None)}),
                (("none",), 1, {(None, None), (0, 0), (1, 1), (0, None), (1, None)}),
                ((0, "none"), 1, {(None, None), (0, 0), (1, 1), (0, None), (1, None)})):
            for one in [None] + list(range(2 ** width)):
                for other in [None] + list(range(2 ** width)):
                    told = as_sure(terms=self.fills(fill, width), one=(one,), other=(other,))
                    self.assertIs(told, (one, other) in rows, (fill, width, one, other))

    def test_memories_are_of_one_to_three_names(self):
        for many in (0, 4, 5):
            for one, other in (((None,) * many, (None,) * many), ((None,) * many, (0,)), ((0,), (None,) * many)):
                with self.assertRaises(BadMemory):
                    as_sure(self.fills((0,)), one, other)
        for many in (1, 2, 3):
            self.assertTrue(as_sure(self.fills((0, 1)), (0,) * many, (None,) * many))

    def test_name_by_name(self):
        terms = self.fills((0, 1))
        self.assertTrue(as_sure(terms, (0, 2, 1), (None, 2, None)))
        self.assertFalse(as_sure(terms, (0, 2, 2), (None, 2, None)))
        self.assertFalse(as_sure(terms, (None, 2), (0, 2)))

    def test_least_sure_memories_tell_all_harmless_ones(self):
        """HEART of [82]."""
        found = {"equal": 0, "more": 0}
        for names, seed, many in ((("x",), 76, 80), (("x", "y"), 77, 120)):
            for maker, piece in pieces(seed, many, names):
                terms = some_terms(maker)
                size = 2 ** terms[3]
                every = sorted(all_pairs(size, len(names)), key=lambda pair: (pair[0], rank(pair[1])))
                harmless = before(terms, names, piece, tuple(every))
                least = needs(terms, names, piece)
                self.assertEqual(list(least), sorted(least, key=rank))
                for memory in memories(size, len(names)):
                    self.assertEqual(memory in harmless, any(as_sure(terms, memory, one) for one in least))
                for one in least:
                    for other in harmless:
                        if as_sure(terms, one, other):
                            self.assertTrue(as_sure(terms, other, one))
                            self.assertGreaterEqual(one.count(None), other.count(None))
                    self.assertFalse(any(as_sure(terms, one, other) for other in least if other != one))
                found["equal" if len(least) == len(harmless) else "more"] += 1
        self.assertGreater(min(found.values()), 10)

    def test_of_those_that_are_alike_the_one_with_the_most_none(self):
        division = ("over", ONE, name("x"))
        self.assertEqual(needs(self.fills((1,)), ("x",), division), ((None,), (2,), (3,)))
        self.assertEqual(needs(self.fills((1, 3), 1), ("x", "y"), division), ((None, None), (None, 0)))
        self.assertEqual(needs(terms=self.fills((1, 2)), names=("x",), piece=division), ((None,), (3,)))
        self.assertEqual(needs(self.fills((0,), 1), ("x", "y"), division), ((1, None), (1, 1)))
        self.assertEqual(needs(self.fills((0,), 1), ("x",), ("over", ONE, ZERO)), ())
        self.assertEqual(needs(self.fills((0, "none"), 1), ("x",), division), ((1,),))


class GuardTest(unittest.TestCase):
    def test_tests(self):
        division = ("over", name("y"), name("x"))
        terms = (("left", "right"), ("up",), (1,), 1)
        self.assertEqual(tests(terms, ("x", "y"), (), division), ((),))
        self.assertEqual(tests(terms, ("x", "y"), ("x",), division), ((1,),))
        self.assertEqual(tests(terms, ("x", "y"), ("y",), division), ((0,), (1,)))
        self.assertEqual(tests(terms, ("x", "y"), ("x", "y"), division), ((1, 0), (1, 1)))
        self.assertEqual(tests(terms=TERMS, names=("y", "x"), held=("y", "x"), piece=division), ((0, 1), (1, 1)))
        self.assertEqual(tests(TERMS, ("x", "y"), (), division), ())

    def test_tests_are_harmless_memories(self):
        for maker, inner in pieces(78, 60, ("x", "y")):
            terms = some_terms(maker)
            piece = ("over", ONE, maker.some((inner, ("minus", inner, name("x")), name("y"))))
            size = 2 ** terms[3]
            every = tuple(sorted(all_pairs(size, 2), key=lambda pair: (pair[0], rank(pair[1]))))
            harmless = before(terms, ("x", "y"), piece, every)
            for held in ((), ("x",), ("y",), ("x", "y")):
                rows = [memory for memory in harmless
                        if [one for one, worth in zip(("x", "y"), memory) if worth is not None] == list(held)]
                self.assertEqual(tests(terms, ("x", "y"), held, piece),
                                 tuple(tuple(worth for worth in memory if worth is not None) for memory in rows))

    def worth_of(self, width, held, worths, expression):
        """What an expression shows, whatever is answered."""
        body = then(*[put(x, number(worth)) for x, worth in zip(held, worths)], show(expression))
        thing = program(body, held or ("x",))
        found = set()
        for order in ("left", "right"):
            told = document(("run", (order,)), fill=("run", ("none",)), width=("run", (width,)))
            maker = ("maker", (order, "up", "none", width), ((),))
            found.add(run(told, thing, maker, (), 5))
        (((events, end),),) = (found,)
        self.assertEqual((len(events), end), (1, "ends"))
        return events[0][1]

    def check(self, width, held, lot):
        expression = guard(width, held, lot)
        self.assertTrue(is_expression(expression))
        for _, node in nodes_of(expression):
            self.assertNotIn(node[0], ("set", "show", "ask", "call", "each", "while"))
            if node[0] == "name":
                self.assertIn(node[1], held)
        for worths in itertools.product(range(2 ** width), repeat=len(held)):
            self.assertEqual(self.worth_of(width, held, worths, expression), int(worths in lot), (width, held, lot, worths))

    def test_all_small_lots(self):
        for width, held in ((1, ("x",)), (2, ("x",)), (1, ("y", "x"))):
            every = list(itertools.product(range(2 ** width), repeat=len(held)))
            for many in range(len(every) + 1):
                for lot in itertools.combinations(every, many):
                    self.check(width, held, lot)
        for lot in ((), ((),)):
            self.check(3, (), lot)

    def test_some_wide_lots(self):
        maker = Maker(79)
        for width, held, many in ((3, ("x",), 20), (2, ("a", "b"), 12), (2, ("c", "b", "a"), 4), (3, ("x", "y"), 4)):
            every = list(itertools.product(range(2 ** width), repeat=len(held)))
            for _ in range(many):
                odds = maker.some((0.1, 0.5, 0.9))
                self.check(width, held, tuple(one for one in every if maker.random.random() < odds))

    def test_flat_enough(self):
        every = list(itertools.product(range(8), repeat=3))
        expression = guard(width=3, held=("x", "y", "z"), lot=tuple(every[::2]))
        self.assertLess(max(len(path) for path, _ in nodes_of(expression)), 40)
        self.assertEqual(guard(3, ("x", "y", "z"), tuple(every)), ONE)
        self.assertEqual(guard(3, ("x", "y", "z"), ()), ZERO)

    def test_what_is_guarded_is_harmless(self):
        """Facts of [83]."""
        guarded = 0
        for maker, inner in pieces(80, 80, ("x", "y")):
            terms = some_terms(maker)
            piece = ("over", ONE, ("minus", inner, maker.some((name("x"), name("y"), ("plus", name("x"), name("y"))))))
            size = 2 ** terms[3]
            every = tuple(sorted(all_pairs(size, 2), key=lambda pair: (pair[0], rank(pair[1]))))
            for held in ((), ("x",), ("y",), ("x", "y")):
                lot = tests(terms, ("x", "y"), held, piece)
                whole = ("if", guard(terms[3], held, lot), piece, ZERO)
                harmless = before(terms, ("x", "y"), whole, every)
                for memory in memories(size, 2):
                    if [one for one, worth in zip(("x", "y"), memory) if worth is not None] == list(held):
                        self.assertIn(memory, harmless)
                guarded += 0 < len(lot) < size ** len(held)
                more = [one for one in itertools.product(range(size), repeat=len(held)) if one not in lot][:1]
                if more:
                    wider = ("if", guard(terms[3], held, tuple(sorted(lot + tuple(more)))), piece, ZERO)
                    memory = tuple(dict(zip(held, more[0])).get(one) for one in ("x", "y"))
                    self.assertNotIn(memory, before(terms, ("x", "y"), wider, every))
        self.assertGreater(guarded, 10)

    def test_a_guarded_piece_in_a_program_is_safe(self):
        division = ("over", ONE, name("x"))
        told = document(("anew", ("left", "right")), fill=("anew", (0, 1)))
        lot = tests(TERMS, ("x",), ("x",), division)
        guarded = program(then(put("x", ASK), ("if", guard(1, ("x",), lot), division, ZERO)))
        self.assertEqual(ruin(told, guarded)[0], "safe")
        self.assertEqual(ruin(told, program(then(put("x", ASK), division)))[0], "ruined")


if __name__ == "__main__":
    unittest.main()
