"""Points [25] to [27]: spans, rows cut out and put in, and all programs of the same words."""

import unittest

from anymaker.errors import BadPart, BadPath, BadProgram, BadText, BadThing, TooMany
from anymaker.others import others
from anymaker.patches import cut, put, span
from anymaker.reading import can_follow, read, read_rows
from anymaker.words import words_of
from anymaker.writing import text_of
from tests import model
from tests.nearly import STRANGE
from tests.samples import Maker, document, name, number, program, put as set_to, show, then
from tests.test_reading import LINES, NO_TEXTS, TEXT, TOLD, caught, things
from tests.texts import Writer, model_read, nested

ONE = number(1)
ZERO = number(0)


def nodes_of(expression, path=()):
    yield path, expression
    for at in model.INNER.get(expression[0], ()):
        yield from nodes_of(expression[at], path + (at,))


def exchanged(thing, part, path, new):
    """The program with another node there."""
    def go(node, left):
        return new if not left else node[:left[0]] + (go(node[left[0]], left[1:]),) + node[left[0] + 1:]
    parts = [(one, go(expression, path) if one == part else expression) for one, expression in model.parts_of(thing).items()]
    return thing[:2] + (tuple(parts[:-1]), parts[-1][1])


def programs(seed, many):
    writer = Writer(seed)
    rows = [thing for thing in things(seed + 1, many * 2) if thing[0] == "program"][:many]
    return [(thing, writer.text(thing)) for thing in rows]


def all_nodes(thing):
    for part, expression in model.parts_of(thing).items():
        for path, node in nodes_of(expression):
            yield part, path, node


def is_alone(thing, part, path):
    """Whether a node is an item of a list that is no block, or ahead of others in a block."""
    if not path:
        return False
    parent = model.parts_of(thing)[part]
    for at in path[:-1]:
        parent = parent[at]
    if parent[0] == "then":
        return path[-1] == 1
    return not (parent[0] == "each" or parent[0] == "while" and path[-1] == 2 or parent[0] == "if" and path[-1] > 1)


class SpanTest(unittest.TestCase):
    def test_example(self):
        """[27] as it stands."""
        self.assertEqual(span(text=TEXT, part="body", path=(1, 2)), (6, 11))
        self.assertEqual(span(text=TEXT, part="body", path=(2,)), (11, 15))
        self.assertEqual(cut(text=TEXT, part="body", path=(2,)), "show plus 1\n          x\n")
        found = put(text=TEXT, part="body", path=(2, 1), rows="show 2\nask")
        self.assertEqual(found.split("\n")[:5], LINES[:5])
        self.assertEqual(found.split("\n")[5:], ["  show group", "         show 2", "         ask", ""])

    def test_groups(self):
        """The word group and the ones behind it tell one node."""
        text = "program x\nbody show group 1\n                2\n                3\n     0\n"
        thing = program(then(show(then(ONE, number(2), number(3))), ZERO))
        self.assertEqual(read(text), thing)
        for path, told in (((), (3, 8)), ((1,), (3, 8)), ((1, 1), (4, 8)), ((1, 1, 1), (5, 6)), ((1, 1, 2), (6, 8)), ((1, 1, 2, 2), (7, 8)),
                           ((2,), (8, 9))):
            self.assertEqual(span(text, "body", path), told if path else (3, 9), path)
        self.assertEqual(cut(text, "body", (1, 1)), "1\n2\n3\n")
        self.assertEqual(cut(text, "body", (1, 1, 2)), "2\n3\n")
        self.assertEqual(cut(text, "body", (1,)), "show group 1\n           2\n           3\n")
        below = text.replace("group 1\n", "group\n\n\n                1  \n")
        self.assertEqual(cut(below, "body", (1, 1)), "1\n2\n3\n")
        self.assertEqual(put(below, "body", (1, 1), "7"), "program x\nbody show 7\n     0\n")

    def test_spans_of_all_nodes(self):
        """The words of a node are those that text_of writes for it; children lie in their node, one behind another."""
        for thing, text in programs(441, 120):
            words = [word for word, _, _ in words_of(text)]
            for part, path, node in all_nodes(thing):
                begin, end = span(text, part, path)
                self.assertEqual(words[begin:end], self.words_of_node(thing, part, path, node), (text, part, path))
                inner = [span(text, part, path + (at,)) for at in model.INNER.get(node[0], ())]
                for one, other in zip(inner, inner[1:]):
                    self.assertLessEqual(one[1], other[0])
                self.assertTrue(all(begin <= one and other <= end for one, other in inner))

    def words_of_node(self, thing, part, path, node):
        words = text_of(program(node, thing[1], thing[2])).split()
        words = words[len(text_of(program(ZERO, thing[1], thing[2])).split()) - 1:]
        return (["group"] if node[0] == "then" and is_alone(thing, part, path) else []) + words

    def test_wrong_values(self):
        for call in (span, cut, lambda text, part, path: put(text, part, path, None)):
            for text in NO_TEXTS:
                self.assertEqual(caught(call, text, None, None), (None, None, None))
            self.assertEqual(caught(call, "program x\nbody", None, None), (2, 5, can_follow("program x\nbody")))
            with self.assertRaises(BadThing):
                call(text_of(document()), None, None)
            for part in STRANGE + ("p", "program", ["body"]):
                with self.assertRaises(BadPart):
                    call(TEXT, part, None)
            for path in (None, 1, "", [], [1], (0,), (3,), (1, 1, 1), (True,), ("1",), (1, 2, 1, 1, 1), (-1,), (1, None), ((1,),), (2, 1, 0)):
                with self.assertRaises(BadPath):
                    call(TEXT, "body", path)
        for rows, found in ((None, (None, None, None)), ("", (1, 1)), ("y", (1, 1)), ("x\n  x", (2, 3)), ("show", (1, 5)), ("call p", (1, 1)),
                            ("group 1", (1, 8)), ("1\n\nset y", (3, 5))):
            error = caught(put, TEXT, "body", (1,), rows)
            self.assertEqual(error[:len(found)], found)
            self.assertEqual(error, caught(read_rows, TOLD, "body", rows))


class CutTest(unittest.TestCase):
    def test_what_is_cut_is_the_node(self):
        """HEART of [25]: it is read as the node, and put where it was cut it tells the same program."""
        for thing, text in programs(442, 130):
            for part, path, node in all_nodes(thing):
                rows = cut(text, part, path)
                self.assertEqual(read_rows(thing, part, rows), node, (text, part, path))
                lines = rows.split("\n")
                self.assertEqual(lines.pop(), "")
                self.assertTrue(all(line and line == line.rstrip() for line in lines))
                self.assertEqual(lines[0], lines[0].lstrip())
                begin, end = span(text, part, path)
                words = words_of(text)[begin:end]
                if node[0] == "then" and is_alone(thing, part, path):
                    self.assertEqual(words[0][0], "group")
                    words = words[1:]
                mine = words_of(rows)
                self.assertEqual([word for word, _, _ in mine], [word for word, _, _ in words])
                self.assertEqual({one[2] - other[2] for one, other in zip(words, mine)}, {words[0][2] - 1})
                self.assertEqual(read(put(text, part, path, rows)), thing)

    def test_blanks_between_words_stay(self):
        text = "program x\nbody   plus    left   \n\n          show     1  \n          2\n"
        self.assertEqual(cut(text, "body", ()), "plus    left\n   show     1\n   2\n")
        self.assertEqual(cut(text, "body", (1,)), "show     1\n")


class PutTest(unittest.TestCase):
    def test_any_rows_at_any_node(self):
        """HEART of [25]: the node is exchanged; words ahead stand where they stood, those behind in their columns."""
        maker, writer = Maker(443), Writer(444)
        kinds = set()
        for thing, text in programs(445, 130):
            for part, path, node in maker.random.sample(list(all_nodes(thing)), 1 + len(list(all_nodes(thing))) // 3):
                new = maker.some((nested(maker)[3], ONE, then(ONE, show(ZERO)), then(then(ONE, ZERO), ("while", ONE, ZERO))))
                new = self.by_names(new, thing[1][0])
                rows = writer.rows_of(new)
                found = put(text, part, path, rows)
                self.assertEqual(read(found), exchanged(thing, part, path, new), (text, part, path, rows))
                self.assertEqual(model_read(found), read(found))
                self.places(text, found, span(text, part, path), rows, new[0] == "then" and is_alone(thing, part, path))
                kinds.add((new[0] == "then", is_alone(thing, part, path), node[0] == "then"))
        self.assertEqual(len(kinds), 8)

    def by_names(self, node, variable):
        return tuple(self.by_names(one, variable) if type(one) is tuple else variable if one == "x" else one for one in node)

    def places(self, text, found, told, rows, has_group):
        """Where all words stand: ahead, of the rows, behind."""
        old, new, put_in = words_of(text), words_of(found), words_of(rows)
        begin, end = told
        self.assertEqual(new[:begin], old[:begin])
        column = old[begin][2]
        if has_group:
            self.assertEqual(new[begin], ("group",) + old[begin][1:])
            self.assertEqual(new[begin + 1][1], old[begin][1] + 1)
            begin, column = begin + 1, column + 2
        mine = new[begin:begin + len(put_in)]
        self.assertEqual([(word, at - put_in[0][2]) for word, _, at in put_in], [(word, at - column) for word, _, at in mine])
        behind = new[begin + len(put_in):]
        self.assertEqual([(word, at) for word, _, at in behind], [(word, at) for word, _, at in old[end:]])
        lines = sorted({line for _, line, _ in put_in})
        self.assertEqual([line - mine[0][1] for _, line, _ in mine], [lines.index(line) for _, line, _ in put_in])
        if end == len(old):
            self.assertTrue(found.endswith("\n") and not found.endswith("\n\n"))
        else:
            self.assertTrue(found.endswith("\n".join(text.split("\n")[old[end][1] - 1:])))

    def test_first_last_and_all_of_a_block(self):
        text = "program x\nbody\n  show 1\n  ask\n  x\n"
        for path, rows, lines in (((), "0", ["  0"]), ((1,), "0\n1", ["  group", "    0", "    1", "  ask", "  x"]),
                                  ((1,), " ask", ["  ask", "  ask", "  x"]), ((2,), "0\n1\n0", ["  show 1", "  0", "  1", "  0"]),
                                  ((2, 2), "1\n0", ["  show 1", "  ask", "  1", "  0"]), ((2, 1), "1\n0", ["  show 1", "  group", "    1", "    0", "  x"]),
                                  ((1, 1), "plus 1\n     2", ["  show plus 1", "            2", "  ask", "  x"]),
                                  ((1, 1), "1\n2", ["  show group", "         1", "         2", "  ask", "  x"]),
                                  ((2, 2), "\n\n   while 1  \n\n   do 2\n      3  ", ["  show 1", "  ask", "  while 1", "  do 2", "     3"])):
            self.assertEqual(put(text, "body", path, rows), "\n".join(["program x", "body"] + lines + [""]), (path, rows))

    def test_lines_behind_stay_as_they_are(self):
        text = "program x\npart p ask  \n\n  \nbody   show 1   \n\n\n       2  \n\n"
        self.assertEqual(put(text, "p", (), "x\n  \n1"), "program x\npart p x\n       1\nbody   show 1   \n\n\n       2  \n\n")
        self.assertEqual(put(text, "body", (1, 1), "call p"), "program x\npart p ask  \n\n  \nbody   show call p\n       2  \n\n")
        self.assertEqual(put(text, "body", (2,), "3"), "program x\npart p ask  \n\n  \nbody   show 1   \n\n\n       3\n")

    def test_patches_keep_a_program_right(self):
        """So a rewriting is a patch of rows: parts that may be called are those ahead."""
        text = "program x\npart p ask\npart q 1\nbody x\n"
        self.assertEqual(read(put(text, "q", (), "call p"))[2][1], ("q", ("call", "p")))
        for part, rows in (("p", "call p"), ("q", "call q"), ("p", "call q")):
            with self.assertRaises(BadText):
                put(text, part, (), rows)
        with self.assertRaises(BadProgram):
            read_rows(None, "p", "1")


def ways_by_columns(words):
    """All programs of these words, by trying for each word all places that are wanted: here or at each list."""
    found = set()

    def go(text, left):
        if not left:
            if "END" in can_follow(text)[0]:
                found.add(read(text))
            return
        here, below = can_follow(text)
        if text and (left[0] in here or "NAME" in here and left[0] not in [word for _, _, row in below for word in row]):
            try:
                can_follow(text + " " + left[0])
                go(text + " " + left[0], left[1:])
                if any(high is None for _, high, _ in below):
                    return
            except BadText:
                pass
        for low, _, row in below:
            if left[0] in row:
                go((text + "\n" if text else "") + " " * (low - 1) + left[0], left[1:])
    go("", words)
    return found


class OthersTest(unittest.TestCase):
    def test_example(self):
        """[27]: the loop may have the first, the first two or all three of the rows."""
        rows = [show(name("x")), set_to("x", ZERO), show(("plus", ONE, name("x")))]
        told = [("while", name("x"), then(*rows)), then(("while", name("x"), then(*rows[:2])), rows[2]), then(("while", name("x"), rows[0]), *rows[1:])]
        found = others(text=TEXT)
        self.assertEqual(set(found), {program(body) for body in told})
        self.assertEqual(list(found), sorted(found, key=text_of))
        self.assertEqual(len(found), 3)

    def test_nothing_is_free(self):
        for thing in (program(ONE), program(then(ONE, ZERO, ONE)), program(("plus", ONE, show(ONE)), ("x", "y")),
                      program(("if", ONE, ONE, ZERO)), program(("while", ONE, ZERO))):
            self.assertEqual(others(text_of(thing)), (thing,))

    def test_many_against_all_columns(self):
        """HEART of [26]: all that texts with these words tell."""
        counted = {}
        maker = Maker(451)
        seen = 0
        while seen < 120:
            thing = nested(maker)
            words = text_of(thing).split()
            if len(words) > 16:
                continue
            seen += 1
            found = others(Writer(seen).text(thing))
            self.assertEqual(set(found), ways_by_columns(words), thing)
            self.assertEqual(list(found), sorted(found, key=text_of))
            self.assertEqual(len(set(found)), len(found))
            counted[len(found)] = counted.get(len(found), 0) + 1
        self.assertGreaterEqual(len(counted), 4)

    def test_facts(self):
        for thing, text in programs(452, 150):
            try:
                found = others(text)
            except TooMany:
                continue
            words = [word for word, _, _ in words_of(text)]
            self.assertIn(thing, found)
            for other in found:
                mine = text_of(other)
                self.assertEqual(mine.split(), words)
                self.assertEqual(others(mine), found)
                self.assertEqual(self.heads(thing), self.heads(other))
                self.assertEqual(self.begins(text, thing), self.begins(mine, other))

    def heads(self, thing):
        return sorted(node[0] for _, _, node in all_nodes(thing))

    def begins(self, text, thing):
        """Where nodes begin that are no then, by parts."""
        return sorted((span(text, part, path)[0], node[0]) for part, path, node in all_nodes(thing) if node[0] != "then")

    def test_groups_and_several_parts(self):
        text = "program x\npart p while 1\n       do 2\n          3\nbody while 1\n     do 2\n        3\n        4\n"
        found = others(text)
        self.assertEqual(len(found), 2 * 3)
        self.assertEqual(found, tuple(sorted(found, key=text_of)))
        grouped = "program x\nbody group 1\n           2\n           3\n     4\n"
        self.assertEqual(set(others(grouped)), {program(then(then(ONE, number(2), number(3)), number(4))),
                                                program(then(then(ONE, number(2)), number(3), number(4)))})
        shown = "program x\nbody show group 1\n                2\n                3\n"
        self.assertEqual(set(others(shown)), {program(show(then(ONE, number(2), number(3)))),
                                              program(then(show(then(ONE, number(2))), number(3)))})

    def test_names_that_look_like_words_of_lists(self):
        for one in ("item", "block", "text", "rows", "variable", "number"):
            text = f"program {one}\nbody while {one}\n     do show {one}\n        {one}\n     set {one} {one}\n"
            self.assertEqual(set(others(text)), ways_by_columns(text.split()))
            self.assertEqual(len(others(text)), 3)

    def test_more_than_100(self):
        rows = ["program x", "body"]
        for many in (98, 99):
            text = "\n".join(rows + ["  while 1", "  do 2"] + ["     3"] * many)
            self.assertEqual(len(others(text)), many + 1)
        for text in ("\n".join(rows + ["  while 1", "  do 2"] + ["     3"] * 100),
                     "\n".join(rows + ["  while 1", "  do while 1", "     do 2"] + ["        3"] * 13),
                     "\n".join(rows + ["  while 1", "  do 2", "  while 1", "  do 3", "  3", "  3"] * 5)):
            with self.assertRaises(TooMany) as error:
                others(text)
            self.assertEqual(error.exception.most, 100)

    def test_few_although_blocks_could_end_anywhere(self):
        """Many ways to read a beginning, and few that lead to the end."""
        text = "program x\nbody plus while 1\n          do 2\n" + "             3\n" * 40 + "          4\n"
        found = others(text)
        self.assertIn(read(text), found)
        self.assertEqual(len(found), 41)
        text = "program x\nbody if plus while 1\n             do 2\n" + "                3\n" * 40
        text += "             4\n     then 5\n     else 6\n"
        self.assertEqual(others(text), (read(text),))

    def test_wrong_values(self):
        for text in NO_TEXTS:
            self.assertEqual(caught(others, text), (None, None, None))
        self.assertEqual(caught(others, "program x\nbody y"), caught(read, "program x\nbody y"))
        with self.assertRaises(BadThing):
            others(text_of(document()))


if __name__ == "__main__":
    unittest.main()
