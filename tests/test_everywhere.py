"""Point [67]: open paths of pieces that are idle whatever stands around them."""

import itertools
import unittest

from anymaker.errors import BadPath, BadPiece, TooMany
from anymaker.everywhere import idle_everywhere, is_told_by, told_by
from anymaker.forcing import forces, is_pin_change
from anymaker.leastpins import idle_places
from anymaker.pinning import pinned
from anymaker.programs import is_program, places
from tests import model
from tests.nearly import STRANGE, nearly
from tests.samples import ASK, BIT, Maker, SWAY, document, name, number, program, put, show, then
from tests.test_pins import KINDS, THING, TWICE, settings, sum_of

ONE = number(1)
ZERO = number(0)
BOTH = ("left", "right")


def names_in(piece):
    found = {piece[1]} if piece[0] in ("name", "set", "each") else set()
    return found.union(*[names_in(piece[at]) for at in model.INNER.get(piece[0], ())])


def around(piece):
    """A program that does the piece alone."""
    return program(piece, tuple(sorted(names_in(piece))) or ("x",))


def paths_of(piece):
    return sorted(path for kind in KINDS for _, path in model.places(around(piece), kind))


def writings_of(told, piece):
    rows = {}
    for at, kind in enumerate(KINDS):
        rows.update({place: told[1 + at][1] for place in model.places(around(piece), kind)})
    rows = dict(sorted(rows.items()))
    return [tuple(zip(rows, options)) for options in itertools.product(*rows.values())]


def does_alike(told, one, other, memory):
    """Whether two pinned programs show the same from a memory on, and end with the same worth and memory."""
    choice = settings(told)[1]
    pending = [tuple((thing, (model.placed(thing, "body"), memory)) for thing in (one, other))]
    for pair in pending:
        nows = [settled(settings(told)[0], thing, choice, standing) for thing, standing in pair]
        if nows[0][:1] != nows[1][:1] or nows[0][0] != "goes" and nows[0] != nows[1]:
            return False
        if nows[0][0] == "goes":
            if [event for event, _ in nows[0][1]] != [event for event, _ in nows[1][1]]:
                return False
            for (_, mine), (_, others) in zip(nows[0][1], nows[1][1]):
                behind = ((one, mine), (other, others))
                if behind not in pending:
                    pending.append(behind)
    return True


def settled(told, thing, choice, standing):
    """("ends", worth, memory), ("never",), ("ruined",) or ("goes", events with what is behind them)."""
    seen = []
    while standing not in seen:
        seen.append(standing)
        move = model.moves(told, thing, choice, standing)
        if move[0] == "ends":
            return move + (standing[1],)
        if move[0] == "ruined":
            return move
        if model.eventful(move):
            return ("goes", model.eventful(move))
        standing = move[2]
    return ("never",)


def is_idle(told, piece, path):
    """By the words: over all memories, and all writings that are unlike at the path alone."""
    thing = around(piece)
    memories = list(itertools.product((None,) + tuple(range(2 ** told[4][1][0])), repeat=len(thing[1])))
    rows = writings_of(told, piece)
    for one, other in itertools.combinations(rows, 2):
        if [mine[0] for mine, others in zip(one, other) if mine != others] == [("body", path)]:
            for memory in memories:
                if not does_alike(told, pinned(thing, one), pinned(thing, other), memory):
                    return False
    return True


def small_piece(maker, depth):
    if depth == 0:
        return maker.some((name("x"), ONE, ZERO, put("x", ONE), put("x", ZERO), show(ONE), ASK, name("x"), ("name", "x", 1)))
    inner = [small_piece(maker, maker.some((0, depth - 1))) for _ in range(3)]
    pin = maker.some(((), (), ("left",)))
    return maker.some(((maker.some(("plus", "times", "less", "over", "same")), inner[0], inner[1]) + pin, then(*inner[:2]),
                       ("if",) + tuple(inner), put("x", inner[0]), show(inner[0]),
                       ("each", "x", 0, 1, inner[0]), ("while", inner[0], inner[1])))


def cases(seed, many, most):
    """So many pairs of a document and a piece with few writings."""
    maker = Maker(seed)
    found = []
    while len(found) < many:
        told = document((maker.some(("ever", "run", "anew", "place")), maker.some((BOTH, BOTH, ("left",)))),
                        (maker.some(("run", "anew")), maker.some((("up", "down"), ("up",)))),
                        ("run", maker.some(((0,), (0, 1), (1, 2)))), ("run", (maker.some((1, 1, 2)),)))
        piece = small_piece(maker, 2)
        if paths_of(piece) and len(writings_of(told, piece)) <= most:
            found.append((told, piece))
    return found


class IdleTest(unittest.TestCase):
    def test_ordinary(self):
        told = document(("run", BOTH), ("run", ("up", "down")), width=("run", (2,)))
        for piece, idle in ((("plus", ONE, ONE), ((),)), (sum_of("x"), ((2,),)), (("plus", show(ONE), show(ZERO)), ()),
                            (("plus", show(ONE), show(ONE)), ((),)), (("minus", show(ONE), ONE), ((),)),
                            (("each", "x", 0, 1, ONE), ()), (then(("each", "x", 0, 1, ONE), put("x", ONE)), ((1,),)),
                            (("each", "x", 3, 3, ONE), ((),)), (then(put("x", ZERO), sum_of("x")), ((2, 2),)),
                            (("plus", ONE, ONE, "left"), ()), (ONE, ()), (ASK, ()), (("plus", ASK, ASK), ((),)),
                            (("minus", ASK, ASK), ()), (("while", ONE, ("plus", put("x", ONE), put("x", ZERO))), ((2,),))):
            self.assertEqual(idle_everywhere(document=told, piece=piece), idle, piece)

    def test_the_example_regards_one_program_only(self):
        """[68]: the order of the difference is idle in the program; the piece alone tells both sums."""
        self.assertEqual(idle_places(TWICE, THING)[0], ("body", (1,)))
        self.assertEqual(idle_everywhere(TWICE, THING[3]), ((1,), (1, 1, 2), (1, 2, 2)))
        self.assertEqual(told_by(TWICE, THING[3], (1,)), None)
        found = told_by(TWICE, THING[3], (1, 1))
        self.assertTrue(is_told_by(TWICE, THING[3], (1, 1), found))
        part = then(put("x", ZERO), sum_of("x"))
        self.assertEqual(idle_everywhere(TWICE, part), ((2, 2),))
        self.assertTrue(forces(TWICE, program(show(("minus", ("call", "p"), ("call", "p"))), ("x",), (("p", part),)), ()))

    def test_what_comes_in_ahead_matters(self):
        told = document(fill=("run", (0, 1)))
        self.assertEqual(idle_everywhere(told, name("x")), ())
        self.assertEqual(idle_everywhere(told, then(put("x", ONE), name("x"))), ((2,),))
        self.assertEqual(idle_everywhere(told, ("times", name("x"), ZERO)), ((), (1,)))
        found = told_by(told, name("x"), ())
        self.assertEqual(found[2][3], ())
        self.assertTrue(is_told_by(told, name("x"), (), found))

    def test_none_is_told_from_each_worth(self):
        """By left x stays unset, by right it is set; nothing else is unlike."""
        for width in (1, 2):
            told = document(("run", BOTH), width=("run", (width,)))
            for worth in range(2 ** width):
                piece = then(("plus", put("y", ONE), ("if", ("name", "y", 0), ZERO, put("x", number(worth)))), put("y", ONE), ZERO)
                self.assertEqual(idle_everywhere(told, piece), ())
                found = told_by(told, piece, (1,))
                self.assertTrue(is_told_by(told, piece, (1,), found), (width, worth))

    def test_thirty_nodes(self):
        told = document(("run", BOTH))
        for many, fine in ((14, True), (15, False)):
            piece = then(*[ONE] * many, ("show", ONE)) if many == 14 else then(*[ONE] * many, ONE)
            self.assertEqual(len(paths_of(piece)), 0)
            nodes = str(piece).count("(")
            self.assertEqual(nodes <= 30, fine)
            if fine:
                self.assertEqual((nodes, idle_everywhere(told, piece)), (30, ()))
            else:
                with self.assertRaises(BadPiece):
                    idle_everywhere(told, piece)

    def test_ruin_rounds_and_memories_are_told(self):
        told = document(("run", BOTH))
        ends = ("plus", put("x", ONE), ("over", ONE, name("x")))
        for piece in (ends, ("plus", put("x", ONE), ("while", name("x"), ONE)), ("plus", put("x", ONE), put("x", ZERO)),
                      ("plus", ("over", ONE, ZERO), show(ONE)), ("plus", ("while", ONE, ONE), show(ONE)),
                      ("plus", ("while", ONE, ONE), ("over", ONE, ZERO)), ("plus", show(ASK), show(ASK))):
            idle = idle_everywhere(told, piece)
            self.assertEqual(idle, tuple(path for path in paths_of(piece) if is_idle(told, piece, path)))
            for path in paths_of(piece):
                found = told_by(told, piece, path)
                self.assertEqual(found is None, path in idle)
                self.assertEqual(found is not None, is_told_by(told, piece, path, found))

    def test_many(self):
        counted = [0, 0]
        for told, piece in cases(201, 70, 16):
            idle = idle_everywhere(told, piece)
            self.assertEqual(idle, tuple(path for path in paths_of(piece) if is_idle(told, piece, path)), (told, piece))
            for path in paths_of(piece):
                found = told_by(told, piece, path)
                counted[path in idle] += 1
                self.assertEqual(found is None, path in idle)
                if found is not None:
                    self.assertTrue(is_told_by(told, piece, path, found), (told, piece, path, found))
                    self.assertTrue(self.tells(told, piece, path, found))
        self.assertGreater(min(counted), 20)

    def tells(self, told, piece, path, found):
        """By the words: a program with the piece there, and a change of () at the place."""
        thing, at, change = found
        node = thing[3]
        for one in at:
            node = node[one]
        return is_program(thing) and node == piece and change[1] == ("body", at + path) and is_pin_change(told, thing, (), change)

    def test_in_every_context(self):
        """HEART: what is idle everywhere is idle in every program, and all of it can be left open at once."""
        maker = Maker(202)
        found = 0
        for told, piece in cases(203, 70, 4):
            idle = idle_everywhere(told, piece)
            if not idle:
                continue
            for thing, at in self.contexts(maker, piece):
                rows = [(part, path + inner) for part, path in at for inner in paths_of(piece)]
                every = [place for kind in KINDS for place in places(thing, kind)]
                writings = 1
                for place in every:
                    kind = [kind for kind in KINDS if place in places(thing, kind)][0]
                    writings *= len(told[1 + KINDS.index(kind)][1])
                if writings > 64:
                    continue
                idle_here = idle_places(told, thing)
                for part, path in at:
                    for inner in idle:
                        self.assertIn((part, path + inner), idle_here, (told, thing))
                        found += 1
                kept = [place for place in every if not any(place == (part, path + inner) for part, path in at for inner in idle)]
                self.assertTrue(set(rows) <= set(every))
                options = {place: told[1 + at_kind][1][0] for at_kind, kind in enumerate(KINDS) for place in places(thing, kind)}
                parts = [one for one, _ in thing[2]] + ["body"]
                kept = sorted(kept, key=lambda place: (parts.index(place[0]), place[1]))
                self.assertTrue(forces(told, pinned(thing, tuple((place, options[place]) for place in kept)), ()))
        self.assertGreater(found, 60)

    def contexts(self, maker, piece):
        """Programs that have the piece, with where it stands."""
        variables = ("x", "y")
        yield program(then(show(piece), show(("name", "x", 1))), variables), [("body", (1, 1))]
        yield program(then(put("x", piece), show(piece)), variables), [("body", (1, 2)), ("body", (2, 1))]
        yield program(("each", "y", 0, 1, show(piece), "up"), variables), [("body", (4, 1))]
        yield program(then(put("x", maker.some((ONE, ZERO))), show(("plus", ("call", "p"), ("call", "p"), "left"))), variables,
                      (("p", piece),)), [("p", ())]
        yield program(("if", ASK, show(piece), then(show(ONE), piece)), variables), [("body", (2, 1)), ("body", (3, 2))]

    def test_three_variables_and_width_three(self):
        told = document(("run", BOTH), fill=("run", (0, 3)), width=("run", (3,)))
        piece = then(put("a", ("plus", name("b"), name("c"))), ("minus", put("b", ONE), name("b")))
        idle = idle_everywhere(told, piece)
        self.assertIn((1, 2), idle)
        self.assertNotIn((2,), idle)
        self.assertTrue(is_told_by(told, piece, (2,), told_by(told, piece, (2,))))

    def test_too_many_ways_to_write(self):
        told = document(("run", BOTH))
        six = then(*[("plus", ONE, ONE)] * 6)
        seven = then(*[("plus", ONE, ONE)] * 7)
        self.assertEqual(len(idle_everywhere(told, six)), 6)
        for call in (lambda: idle_everywhere(told, seven), lambda: told_by(told, seven, (1,))):
            with self.assertRaises(TooMany) as caught:
                call()
            self.assertEqual(caught.exception.most, 64)
        self.assertIs(is_told_by(told, seven, (1,), None), False)
        with self.assertRaises(BadPath):
            told_by(told, seven, ())

    def test_pieces_that_are_too_large_or_call(self):
        told = document(("run", BOTH))
        large = then(*[ONE] * 15)
        self.assertEqual(idle_everywhere(told, large), ())
        for piece in (then(show(ONE), large), ("call", "p"), then(ONE, ("call", "p")),
                      then(name("a"), name("b"), name("c"), name("d")), ("plus", ONE), None, ("hole",)):
            with self.assertRaises(BadPiece):
                idle_everywhere(told, piece)

    def test_nearly_told(self):
        checked = {True: 0, False: 0}
        for told, piece in cases(204, 25, 8):
            for path in paths_of(piece)[:2]:
                found = told_by(told, piece, path)
                if found is None:
                    for other in STRANGE:
                        self.assertIs(is_told_by(told, piece, path, other), False)
                    continue
                for other in nearly(found):
                    fine = self.is_fine(told, piece, path, other)
                    self.assertIs(is_told_by(told, piece, path, other), fine, (told, piece, path, other))
                    checked[fine] += 1
        self.assertGreater(min(checked.values()), 10)

    def is_fine(self, told, piece, path, thing):
        if type(thing) is not tuple or len(thing) != 3 or not is_program(thing[0]) or type(thing[1]) is not tuple:
            return False
        node = thing[0][3]
        for at in thing[1]:
            if type(at) is not int or at not in model.INNER.get(node[0], ()):
                return False
            node = node[at]
        if node != piece or not is_pin_change(told, thing[0], (), thing[2]):
            return False
        return thing[2][1] == ("body", thing[1] + path)

    def test_other_programs_tell_too(self):
        told = document(("run", BOTH))
        piece = ("plus", show(ONE), show(ZERO))
        thing = program(("while", ASK, then(ONE, piece)), ("z",))
        change = (((("body", (2, 2)), "left"),), ("body", (2, 2)), "right", (1,))
        self.assertTrue(is_told_by(document=told, piece=piece, path=(), thing=(thing, (2, 2), change)))
        for other in ((thing, (2,), change), (thing, (2, 2), change[:3] + ((),)), (thing, [2, 2], change), (thing, (2, 2), change[:3])):
            self.assertFalse(is_told_by(told, piece, (), other))
        self.assertFalse(is_told_by(told, ("plus", show(ZERO), show(ONE)), (), (thing, (2, 2), change)))

    def test_several_kinds(self):
        told = document(("run", BOTH), ("run", ("up", "down")), ("run", (0, 1)))
        for piece in (BIT, SWAY, ("plus", BIT, SWAY)):
            for path in idle_everywhere(told, piece):
                self.assertTrue(is_idle(told, piece, path))
        self.assertEqual(idle_everywhere(told, BIT), ((2,),))
        self.assertEqual(idle_everywhere(told, SWAY), ((2,),))


if __name__ == "__main__":
    unittest.main()
