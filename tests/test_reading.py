"""Points [20] to [24] and [27]: texts by indents, what is wanted, reading, writing and completing."""

import unittest

from anymaker.documents import is_document
from anymaker.endings import completed
from anymaker.errors import BadPart, BadProgram, BadText, BadThing
from anymaker.programs import is_program
from anymaker.reading import can_follow, read, read_rows
from anymaker.words import words_of
from anymaker.writing import text_of
from tests.nearly import STRANGE, nearly
from tests.samples import Maker, document, name, number, program, put, show, then
from tests.texts import Reader, Writer, model_read, model_rows, small_thing

ONE = number(1)
ZERO = number(0)
LINES = ["program x", "body", "  while x", "  do show x", "     set x 0", "  show plus 1", "            x"]
TEXT = "\n".join(LINES)
TOLD = program(then(("while", name("x"), then(show(name("x")), put("x", ZERO))), show(("plus", ONE, name("x")))))
FIGURES = tuple("01234567")
ITEMS = FIGURES + ("ask", "each", "group", "if", "less", "minus", "over", "plus", "same", "set", "show", "times", "while", "x")
NO_TEXTS = (None, 1, b"program", [], ("program x",), "program\tx", "progr\u00e4m", "program\r\n", "a\x7f", {})


def things(seed, many):
    maker = Maker(seed)
    return [small_thing(maker) for _ in range(many)]


def texts(seed, many):
    writer = Writer(seed)
    return [(thing, writer.text(thing)) for thing in things(seed + 1, many)]


def upto(text, many):
    """The text up to and with so many of its words."""
    words = words_of(text)[:many]
    if not words:
        return ""
    word, line, column = words[-1]
    lines = text.split("\n")[:line]
    return "\n".join(lines[:-1] + [lines[-1][:column - 1 + len(word)]])


def caught(call, *values):
    """The attributes of BadText, None if there is none."""
    try:
        call(*values)
    except BadText as error:
        return error.line, error.column, error.wanted
    return None


def go_on(text, line_word, place):
    """The text with a word more: behind the last one in its line (None), or at a column of the next line."""
    if place is None:
        return text + " " + line_word
    return (text + "\n" if text else "") + " " * (place - 1) + line_word


class WordTest(unittest.TestCase):
    def test_no_texts(self):
        for call in (can_follow, read, completed, lambda text: read_rows(TOLD, "body", text)):
            for text in NO_TEXTS:
                self.assertEqual(caught(call, text), (None, None, None), text)


class WantedTest(unittest.TestCase):
    def test_example(self):
        """[27] as it stands."""
        self.assertEqual(read(text=TEXT), TOLD)
        self.assertEqual(can_follow(text="\n".join(LINES[:4])), (("END", "reads"), ((3, 3, ITEMS), (6, 6, ITEMS))))

    def test_no_words(self):
        for text in ("", " ", "\n\n", "   \n  "):
            self.assertEqual(can_follow(text), ((), ((1, None, ("document", "program")),)))
            self.assertEqual(caught(read, text), (1, 1, ((), ((1, None, ("document", "program")),))))
        self.assertEqual(caught(can_follow, "  body"), (1, 3, ((), ((1, None, ("document", "program")),))))
        self.assertEqual(caught(can_follow, "NAME"), (1, 1, ((), ((1, None, ("document", "program")),))))

    def test_behind_each_word_of_programs(self):
        rows = (("body", "part"),)
        for text, wanted in (
                ("program", (("NAME",), ())),
                ("program x", (("NAME",), ((1, 1, *rows),))),
                ("   program a b c", (("NAME",), ((4, 4, *rows),))),
                ("program a b c d", ((), ((1, 1, *rows),))),
                ("program x\npart", (("NAME",), ())),
                ("program x\nbody", (ITEMS, ((2, None, ITEMS),))),
                ("program x\nbody set", (("x",), ())),
                ("program y x\nbody set", (("x", "y"), ())),
                ("program x\nbody set x", (ITEMS, ((7, None, ITEMS),))),
                ("program x\nbody each x", (FIGURES, ())),
                ("program x\nbody each x 5", (("5", "6", "7"), ())),
                ("program x\nbody each x 5 6", (tuple(sorted(ITEMS + ("up", "down"))), ((7, None, ITEMS),))),
                ("program x\nbody each x 5 6 up", (ITEMS, ((7, None, ITEMS),))),
                ("program x\nbody plus", (tuple(sorted(ITEMS + ("left", "right"))), ((7, None, ITEMS),))),
                ("program x\nbody plus left", (ITEMS, ((7, None, ITEMS),))),
                ("program x\nbody plus left 1", ((), ((16, 16, ITEMS),))),
                ("program x\nbody plus x", (("reads",), ((11, 11, ITEMS),))),
                ("program x\nbody plus x reads", (("0", "1", "2", "3"), ())),
                ("program x\nbody x", (("END", "reads"), ((6, 6, ITEMS),))),
                ("program x\nbody x reads 3", (("END",), ((6, 6, ITEMS),))),
                ("program x\nbody ask", (("END",), ((6, 6, ITEMS),))),
                ("program x\nbody\n    show ask", (("END",), ((5, 5, ITEMS),))),
                ("program x\nbody while", (ITEMS, ((7, None, ITEMS),))),
                ("program x\nbody while 1", ((), ((6, 6, ("do",)),))),
                ("program x\nbody while 1\n     do", (ITEMS, ((7, None, ITEMS),))),
                ("program x\nbody while 1\n     do 2", (("END",), ((6, 6, ITEMS), (9, 9, ITEMS)))),
                ("program x\nbody if 1", ((), ((6, 6, ("then",)),))),
                ("program x\nbody if 1\n     then 2", ((), ((6, 6, ("else",)), (11, 11, ITEMS)))),
                ("program x\nbody if 1\n     then 2\n     else 3", (("END",), ((6, 6, ITEMS), (11, 11, ITEMS)))),
                ("program x\nbody group", (ITEMS, ((7, None, ITEMS),))),
                ("program x\nbody group 1", ((), ((12, 12, ITEMS),))),
                ("program x\nbody group 1\n           2", ((), ((6, 6, ITEMS), (12, 12, ITEMS)))),
                ("program x\nbody show group 1\n                2", (("END",), ((6, 6, ITEMS), (17, 17, ITEMS)))),
                ("program x\nbody if show group 1\n                   2", ((), ((6, 6, ("then",)), (20, 20, ITEMS)))),
                ("program x\nbody plus group 1\n                2", ((), ((11, 11, ITEMS), (17, 17, ITEMS)))),
                ("program x\nbody group group 1\n                 2", ((), ((12, 12, ITEMS), (18, 18, ITEMS)))),
                ("program x\npart p 1", ((), ((1, 1, *rows), (8, 8, ITEMS)))),
                ("program x\npart p 1\npart q", (tuple(sorted(ITEMS + ("call",))), ((2, None, tuple(sorted(ITEMS + ("call",)))),))),
                ("program x\npart p 1\npart q call", (("p",), ())),
                ("program x\npart p 1\npart q 2\nbody call", (("p", "q"), ())),
                ("program x\n" + "".join(f"part p{letter} 1\n" for letter in "abcdef"), ((), ((1, 1, ("body",)), (9, 9, tuple(sorted(ITEMS + ("call",)))))))):
            self.assertEqual(can_follow(text), wanted, text)

    def test_behind_each_word_of_documents(self):
        scopes = ("anew", "ever", "part", "place", "program", "run")
        whole = "document ahead\n order run left\n walk run up\n fill run 0\n width run 1"
        for text, wanted in (
                ("document", (("ahead", "whole"), ())),
                (" document whole", (("order",), ((3, None, ("order",)),))),
                ("document whole order", (scopes, ())),
                ("document whole\n order anew", (("left", "right"), ())),
                ("document whole\n order anew left", (("right",), ((2, 2, ("walk",)),))),
                ("document whole order anew right", ((), ((16, 16, ("walk",)),))),
                ("document whole\n order run left\n walk part up\n fill anew", (("0", "1", "2", "3", "none"), ())),
                ("document whole\n order run left\n walk part up\n fill anew 1", (("2", "3", "none"), ((2, 2, ("width",)),))),
                ("document whole\n order run left\n walk part up\n fill anew none", ((), ((2, 2, ("width",)),))),
                ("document whole\n order run left\n walk part up\n fill anew 1\n width", (("ever", "program", "run"), ())),
                (whole, (("2", "3", "END"), ())), (whole + " 2", (("3", "END"), ())), (whole + " 3", (("END",), ()))):
            self.assertEqual(can_follow(text), wanted, text)

    def test_words_that_cannot_stand(self):
        for text, line, column in (
                ("program x x", 1, 11), ("program body", 1, 9), ("program a b c d e", 1, 17), ("program\nx", 2, 1), ("program x\n body 1", 2, 2),
                ("program x\nbody\n1", 3, 1), ("program x\nbody 1 2", 2, 8), ("program x\nbody y", 2, 6), ("program x\nbody 8", 2, 6),
                ("program x\nbody set 1", 2, 10), ("program x\nbody each x 3 2", 2, 15), ("program x\nbody each x\n        3", 3, 9),
                ("program x\nbody plus 1 2", 2, 13), ("program x\nbody plus 1\n           2", 3, 12), ("program x\nbody plus 1\n         2", 3, 10), ("program x\nbody x\n    1", 3, 5),
                ("program x\nbody x\n       1", 3, 8), ("program x\nbody show 1\n          2", 3, 11), ("program x\nbody while 1\n  do 2", 3, 3),
                ("program x\nbody while 1 do", 2, 14), ("program x\nbody while 1\n     0", 3, 6), ("program x\nbody if 1\n     else 1", 3, 6),
                ("program x\npart p 1\npart p 2", 3, 6), ("program x\npart p call p", 2, 8), ("program x\npart a 1\npart p call p", 3, 13), ("program x\nbody call p", 2, 6),
                ("program x\npart p 1\nbody call q", 3, 11), ("program x\nbody hole", 2, 6), ("program x\nbody then 1", 2, 6),
                ("program x\nbody 1\npart q 1", 3, 1), ("program x\nbody 1\nbody 1", 3, 1), ("document ahead whole", 1, 16),
                ("document ahead walk", 1, 16), ("document ahead\norder", 2, 1), ("document ahead order run right left", 1, 32),
                ("document ahead order run left\n               walk run up\n               fill anew 1 1", 3, 28), ("program X", 1, 9),
                ("program abcdefghi", 1, 9), ("program x\nbody\n  group 1\nbody", 4, 1), ("program x\nbody group 1\n     2", 3, 6),
                ("program x\nbody x reads 4", 2, 14), ("program x\nbody ask left", 2, 10), ("program x\nbody END", 2, 6),
                ("program x\nbody NAME", 2, 6), ("program NAME", 1, 9), ("program x\n" + "part p{} 1\n".format("a") + "body\n  call pb", 4, 8)):
            found = caught(can_follow, text)
            self.assertEqual(found and found[:2], (line, column), text)
            many = len([one for one in words_of(text) if one[1:] < (line, column)])
            self.assertEqual(found[2], can_follow(upto(text, many)), text)
            for call in (read, completed):
                self.assertEqual(caught(call, text), found)
            self.assertIsNone(model_read(text))

    def test_heart_of_wanted(self):
        """Each wanted word, at each of its columns, can be gone on from to a whole text; what stands next is wanted."""
        maker = Maker(401)
        looked = 0
        for thing, text in texts(402, 60):
            words = words_of(text)
            for many in maker.random.sample(range(len(words) + 1), min(6, len(words) + 1)):
                begin = upto(text, many)
                here, below = can_follow(begin)
                self.assertEqual(list(here), sorted(set(here)))
                self.assertEqual([row[0] for row in below], sorted({row[0] for row in below}))
                if many < len(words):
                    self.assertTrue(self.is_wanted(here, below, words, many), (text, many))
                else:
                    self.assertIn("END", here)
                for word, place in self.all_wanted(maker, here, below):
                    whole = completed(go_on(begin, word, place))
                    self.assertIsNotNone(model_read(whole), (begin, word, place))
                    looked += 1
        self.assertGreater(looked, 1500)

    def is_wanted(self, here, below, words, many):
        word, line, column = words[many]
        if many and words[many - 1][1] == line:
            return word in here or "NAME" in here
        return any(low <= column and (high is None or column <= high) and word in row for low, high, row in below)

    def all_wanted(self, maker, here, below):
        fresh = maker.some(("q", "zzz", "fresh", "abcdefgh"))
        for word in here:
            if word != "END":
                yield (fresh if word == "NAME" else word), None
        for low, high, row in below:
            for word in row:
                yield word, low if high is not None else low + maker.some((0, 1, 5))

    def test_no_other_word_can_stand(self):
        maker = Maker(403)
        every = ("program", "document", "part", "body", "do", "then", "else", "x", "y", "0", "7", "show", "plus", "left", "up", "reads", "group",
                 "ahead", "order", "walk", "anew", "run", "none", "call", "p", "q", "NAME", "END", "Q", "hole", "longername")
        for thing, text in texts(404, 40):
            words = words_of(text)
            for many in maker.random.sample(range(len(words) + 1), min(4, len(words) + 1)):
                begin = upto(text, many)
                here, below = can_follow(begin)
                for word in every:
                    for place in (None,) + tuple(maker.random.sample(range(1, 14), 4)) if many else (2, 5):
                        if place is None:
                            fine = word in here and word not in ("NAME", "END") or "NAME" in here and self.is_fresh(begin, word)
                        else:
                            fine = any(low <= place and (high is None or place <= high) and word in row for low, high, row in below)
                        found = caught(can_follow, go_on(begin, word, place))
                        self.assertEqual(found is None, fine, (begin, word, place))
                        if not fine:
                            self.assertEqual(found[2], (here, below))

    def is_fresh(self, begin, word):
        from anymaker.words import is_name
        words = [one for one, _, _ in words_of(begin)]
        if words[-1] == "part":
            taken = [words[at + 1] for at, one in enumerate(words[:-1]) if one == "part"]
        else:
            taken = words[1:]
        return is_name(word) and word not in taken


class ReadTest(unittest.TestCase):
    def test_not_whole(self):
        """The place right behind the last word, and what is wanted there."""
        for text, line, column in (("program", 1, 8), ("program x  ", 1, 10), ("program x\nbody\n\n", 2, 5),
                                   ("program x\n\n  \nbody show", 4, 10), ("\n\n program x", 3, 11),
                                   ("document ahead\n  order run left right", 2, 23), ("program x\nbody while x\n     do group 1", 3, 16)):
            self.assertEqual(caught(read, text), (line, column, can_follow(text)), text)

    def test_any_columns(self):
        """A text tells one thing wherever its columns stand."""
        for thing, text in texts(411, 400):
            self.assertEqual(read(text), thing, text)
            self.assertEqual(model_read(text), thing, text)
            self.assertIn("END", can_follow(text)[0])

    def test_changed_texts(self):
        """Moved lines, words left out, doubled or exchanged: read just as by the columns."""
        maker = Maker(412)
        found = {True: 0, False: 0}
        for thing, text in texts(413, 250):
            for _ in range(12):
                other = self.changed(maker, text)
                told = model_read(other)
                error = caught(read, other)
                self.assertEqual(error is None, told is not None, other)
                if told is not None:
                    self.assertEqual(read(other), told)
                else:
                    self.wrong_at(other, error)
                found[told is not None] += 1
        self.assertGreater(min(found.values()), 150)

    def wrong_at(self, text, error):
        """The first word that cannot stand, or the place behind the last word."""
        words = words_of(text)
        places = [one[1:] for one in words]
        if error[:2] in places:
            at = places.index(error[:2])
            self.assertEqual(can_follow(upto(text, at)), error[2])
            self.assertEqual(caught(can_follow, text), error)
        else:
            self.assertEqual(can_follow(text), error[2])
            last = words[-1] if words else ("", 1, 1)
            self.assertEqual(error[:2], (last[1], last[2] + len(last[0])))

    def changed(self, maker, text):
        lines = text.split("\n")
        at = maker.random.randrange(len(lines))
        words = lines[at].split()
        deed = maker.some(("right", "left", "join", "split", "drop", "double", "word", "line", "swap"))
        if deed == "right":
            lines[at] = " " * maker.some((1, 1, 2, 3)) + lines[at]
        elif deed == "left" and lines[at].startswith(" "):
            lines[at] = lines[at][maker.some((1, 1, 2)):] if lines[at].startswith("  ") else lines[at][1:]
        elif deed == "join" and at:
            lines[at - 1:at + 1] = [lines[at - 1].rstrip() + " " + lines[at].lstrip()]
        elif deed == "split" and len(words) > 1:
            one = maker.some(words[1:])
            where = lines[at].index(" " + one)
            lines[at:at + 1] = [lines[at][:where], " " * maker.some((where, where + 1, 4)) + lines[at][where + 1:]]
        elif deed == "drop" and words:
            lines[at] = lines[at].replace(maker.some(words), " ", 1)
        elif deed == "double" and words:
            one = maker.some(words)
            lines[at] = lines[at].replace(one, one + " " + one, 1)
        elif deed == "word" and words:
            lines[at] = lines[at].replace(maker.some(words), maker.some(("0", "x", "show", "group", "plus", "do", "up", "q", "body", "7")), 1)
        elif deed == "line":
            lines.insert(at, lines[maker.random.randrange(len(lines))])
        elif deed == "swap" and at:
            lines[at - 1], lines[at] = lines[at], lines[at - 1]
        return "\n".join(lines)

    def test_rows_alone(self):
        maker = Maker(414)
        writer = Writer(415)
        for _ in range(250):
            thing = maker.program(3, ("x", "y"))
            parts = [part for part, _ in thing[2]] + ["body"]
            for at, part in enumerate(parts):
                expression = dict(thing[2], body=thing[3])[part]
                rows = writer.rows_of(expression)
                self.assertEqual(read_rows(program=thing, part=part, text=rows), expression)
                self.assertEqual(model_rows(rows, thing[1], parts[:at]), expression)
                other = self.changed(maker, rows)
                told = model_rows(other, thing[1], parts[:at])
                error = caught(read_rows, thing, part, other)
                self.assertEqual(error is None, told is not None, other)
                if told is not None:
                    self.assertEqual(read_rows(thing, part, other), told)

    def test_what_rows_want(self):
        thing = program(ONE, ("x",), (("p", ZERO), ("q", ONE)))
        call = tuple(sorted(ITEMS + ("call",)))
        for part, items in (("p", ITEMS), ("q", call), ("body", call)):
            self.assertEqual(caught(read_rows, thing, part, "  \n"), (1, 1, ((), ((1, None, items),))))
        self.assertEqual(caught(read_rows, thing, "p", "  x\n x"), (2, 2, (("END", "reads"), ((3, 3, ITEMS),))))
        self.assertEqual(caught(read_rows, thing, "q", "call q"), (1, 6, (("p",), ())))
        self.assertEqual(caught(read_rows, thing, "p", "call p"), (1, 1, ((), ((1, None, ITEMS),))))
        self.assertEqual(caught(read_rows, thing, "body", "show"), (1, 5, (call, ((2, None, call),))))
        self.assertEqual(caught(read_rows, thing, "body", "body"), (1, 1, ((), ((1, None, call),))))
        self.assertEqual(read_rows(thing, "body", "\n\n    call q\n    x"), then(("call", "q"), name("x")))
        for part in STRANGE + ("r", "x"):
            with self.assertRaises(BadPart):
                read_rows(thing, part, None)
        with self.assertRaises(BadProgram):
            read_rows(document(), "body", "x")


class WriteTest(unittest.TestCase):
    def test_ordinary(self):
        thing = program(then(("while", ("name", "x", 2), then(show(name("x")), put("x", ZERO))),
                             show(then(("plus", ONE, name("x"), "right"), ("each", "x", 0, 7, then(("ask",), ("call", "p")), "down")))),
                        ("x", "y"), (("p", ("if", ONE, then(then(ONE, ZERO), ONE), ("less", ONE, ZERO))),))
        self.assertEqual(text_of(thing=thing), "\n".join((
            "program x y", "part p", "  if", "    1", "  then", "    group", "      1", "      0", "    1", "  else", "    less", "      1", "      0",
            "body", "  while", "    x reads 2", "  do", "    show", "      x", "    set x", "      0", "  show", "    group", "      plus right",
            "        1", "        x", "      each x 0 7 down", "        ask", "        call p", "")))
        told = document(("anew", ("left", "right")), ("place", ("down",)), ("part", (0, 3, "none")), ("program", (1, 3)), "whole")
        self.assertEqual(text_of(told), "\n".join((
            "document whole", "  order anew left right", "  walk place down", "  fill part 0 3 none", "  width program 1 3", "")))

    def test_reading_what_is_written(self):
        """FACT of [24]."""
        for thing in things(421, 500):
            text = text_of(thing)
            self.assertEqual(read(text), thing)
            self.assertEqual(model_read(text), thing)
            lines = text.split("\n")
            self.assertEqual(lines.pop(), "")
            for line in lines:
                self.assertEqual(line.strip().split(" "), line.split())
                self.assertEqual((len(line) - len(line.lstrip())) % 2, 0)
        for thing in (program(ONE), program(then(then(ONE, ONE), ONE), ("a", "b", "c", "d"))):
            self.assertEqual(read(text_of(thing)), thing)

    def test_no_things(self):
        for thing in STRANGE + (ONE, "program x", program(name("y")), program(ONE)[:3], document()[:5], document(fill=("run", (False,)))):
            with self.assertRaises(BadThing):
                text_of(thing)
        for thing in (program(then(ONE, name("x"))), document()):
            for other in list(nearly(thing))[:200]:
                if is_program(other) or is_document(other):
                    self.assertEqual(read(text_of(other)), other)
                else:
                    with self.assertRaises(BadThing):
                        text_of(other)


class CompletedTest(unittest.TestCase):
    def test_behind_each_word(self):
        for thing, text in texts(431, 60):
            words = words_of(text)
            for many in range(len(words) + 1):
                for tail in ("", "\n", " \n   \n"):
                    begin = upto(text, many)
                    whole = completed(text=begin + tail)
                    self.assertTrue(whole.startswith(begin.rstrip(" \n")), (begin, whole))
                    self.assertIsNotNone(model_read(whole), (begin, whole))
                    self.assertEqual(read(whole), model_read(whole))
                    self.assertEqual(words_of(whole)[:many], words[:many])
                    self.assertEqual(completed(begin + tail), whole)

    def test_wrong_beginnings(self):
        self.assertEqual(caught(completed, "program x\nbody y"), caught(can_follow, "program x\nbody y"))
        self.assertEqual(read(completed("")), model_read(completed("")))

    def test_names_that_are_taken(self):
        for text in ("program", "program a", "program a\npart a 1\npart", "program a\npart a 1\npart b 1\npart"):
            self.assertIsNotNone(model_read(completed(text)))


class ReaderTest(unittest.TestCase):
    def test_the_slow_reader_takes_the_example(self):
        self.assertEqual(model_read(TEXT), TOLD)
        self.assertEqual(Reader("1").tokens, [("1", 1, 1, True)])


if __name__ == "__main__":
    unittest.main()
