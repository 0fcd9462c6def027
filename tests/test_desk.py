"""Point [170]: a desk, its deeds and its questions."""

import unittest

from anymaker.asking import asks
from anymaker.blames import hangs_on
from anymaker.choices import choices
from anymaker.desk import Desk
from anymaker.errors import BadProgram, BadText, MakerError
from anymaker.makers import maker_of
from anymaker.others import others
from anymaker.patches import cut, put
from anymaker.programs import places
from anymaker.reading import read
from anymaker.ruins import ruin
from anymaker.runs import requests, run
from anymaker.steadies import is_portable
from anymaker.words import is_name
from anymaker.writing import text_of
from tests.nearly import STRANGE
from tests.samples import Maker, document, few_standings
from tests.test_reading import NO_TEXTS, TEXT, caught
from tests.texts import Writer, nested

FIRST = document(("run", ("left", "right")), ("run", ("up", "down")), width=("run", (2,)))
ANEW = document(("anew", ("left", "right")), ("place", ("up", "down")), ("anew", (0, 1, "none")), ("run", (1,)))
QUESTIONS = ("text", "tidy", "others", "choices", "places order", "places walk", "places fill", "run", "requests", "portable", "hangs",
             "asks", "ruin", "cut body -", "cut body 1", "cut body 1.2", "cut p -", "cut q 1")
BIT = "program y\npart bit plus set y 0\n              set y 1\n         y\nbody each y 0 1\n       show call bit\n     show ask\n"


class Slow:
    """A desk once more, with all of its history; answers by the functions that are named."""

    def __init__(self, text):
        self.states = [(text, FIRST, 0, (), ())]
        self.at = 0

    def say(self, line):
        try:
            return self.answer(line)
        except MakerError as error:
            return "error " + type(error).__name__

    def do(self, *state):
        self.states[self.at + 1:] = [state]
        self.at += 1
        return "ok"

    def answer(self, line):
        text, told, number, inputs, options = self.states[self.at]
        if type(line) is not str or not all(sign == "\n" or " " <= sign <= "~" for sign in line):
            return "what"
        first = line.split("\n")[0].split(" ")[0]
        if first in ("program", "document"):
            thing = read(line)
            return self.do(line, told, 0, inputs, ()) if first == "program" else self.do(text, thing, 0, inputs, ())
        words, _, rows = line.partition("\n")
        words = words.split(" ")
        if words[0] == "put" and "\n" in line and len(words) == 3 and self.fits("PART", words[1]) and self.fits("PATH", words[2]):
            return self.do(put(text, words[1], self.path(words[2]), rows), told, 0, inputs, ())
        if "\n" in line:
            return "what"
        form = {"choose": ["NUMBER"], "answer": ["OPTION"], "give": ["NUMBER"], "cut": ["PART", "PATH"], "places": ["KIND"]}.get(words[0], [])
        if len(words) != 1 + len(form) or not all(self.fits(*pair) for pair in zip(form, words[1:])):
            return "what"
        thing = read(text)
        return self.by_word(words, thing, *self.states[self.at])

    def by_word(self, words, thing, text, told, number, inputs, options):
        from anymaker.errors import BadChoice, BadInputs, BadOptions, NothingDone, NothingUndone
        head, rest = words[0], words[1:]
        if head == "choose":
            if int(rest[0]) >= len(choices(told, thing)):
                raise BadChoice("")
            return self.do(text, told, int(rest[0]), inputs, ())
        if head == "answer":
            option = int(rest[0]) if rest[0].isdigit() else rest[0]
            if option not in [one for pair in told[1:5] if pair[0] == "anew" for one in pair[1]]:
                raise BadOptions("")
            return self.do(text, told, number, inputs, options + (option,))
        if head == "give":
            if int(rest[0]) > 7 or len(inputs) == 30:
                raise BadInputs("")
            return self.do(text, told, number, inputs + (int(rest[0]),), options)
        if head == "again":
            return self.do(text, told, number, (), ())
        if head in ("undo", "redo"):
            step = -1 if head == "undo" else 1
            if not 0 <= self.at + step < len(self.states):
                raise (NothingDone if head == "undo" else NothingUndone)("")
            self.at += step
            return "ok"
        return self.question(head, rest, thing, text, told, number, inputs, options)

    def question(self, head, rest, thing, text, told, number, inputs, options):
        if head in ("run", "requests"):
            maker = maker_of(told, thing, choices(told, thing)[number], options)
            if head == "run":
                events, end = run(told, thing, maker, inputs, 50)
                return " ".join([f"{word} {one}" for word, one in events] + [end])
            return self.rows((kind,) + self.place(at) + (option,) for kind, at, option in requests(told, thing, maker, inputs, 50))
        if head == "hangs":
            return self.rows((kind,) + (() if at is None else (at,) if type(at) is str else self.place(at)) for kind, at in hangs_on(told, thing))
        if head == "ruin":
            found = ruin(told, thing)
            return "safe" if found[0] == "safe" else f"ruined {found[1]}"
        plain = {
            "text": lambda: text, "tidy": lambda: text_of(thing), "cut": lambda: cut(text, rest[0], self.path(rest[1])),
            "others": lambda: str(len(others(text))), "choices": lambda: str(len(choices(told, thing))),
            "places": lambda: self.rows(self.place(at) for at in places(thing, rest[0])),
            "portable": lambda: "yes" if is_portable(told, thing) else "no", "asks": lambda: str(len(asks(told, thing)))}
        return plain[head]() if head in plain else "what"

    def rows(self, rows):
        return "(" + " ".join("(" + " ".join(map(str, row)) + ")" for row in rows) + ")"

    def place(self, at):
        return (at[0], ".".join(map(str, at[1])) or "-")

    def path(self, word):
        return () if word == "-" else tuple(map(int, word.split(".")))

    def fits(self, form, word):
        if form == "PART":
            return word == "body" or is_name(word)
        if form == "KIND":
            return word in ("order", "walk", "fill")
        if form == "OPTION":
            return word in ("left", "right", "up", "down", "0", "1", "2", "3", "none")
        if form == "PATH":
            return word == "-" or all(len(one) == 1 and one.isdigit() for one in word.split("."))
        return word.isdigit() and len(word) <= 3 and str(int(word)) == word


class DeskTest(unittest.TestCase):
    def check(self, desk, *pairs):
        for line, answer in pairs:
            self.assertEqual(desk.say(line), answer, line)

    def test_begin(self):
        desk = Desk(text=TEXT)
        self.check(desk, ("text", TEXT), ("tidy", text_of(read(TEXT))), ("choices", "4"), ("others", "3"), ("run", "shown 1 ends"),
                   ("requests", "()"), ("portable", "yes"), ("hangs", "()"), ("ruin", "safe"), ("asks", "1"), ("undo", "error NothingDone"),
                   ("redo", "error NothingUndone"), ("places order", "((body 2.1))"), ("places walk", "()"),
                   ("places fill", "((body 1.1) (body 1.2.1.1) (body 2.1.2))"), ("cut body 2", "show plus 1\n          x\n"))
        for text in NO_TEXTS + ("", "program x", "program x\nbody y"):
            with self.assertRaises(BadText):
                Desk(text)
            self.assertEqual(caught(Desk, text), caught(read, text))
        with self.assertRaises(BadProgram):
            Desk(text_of(document()))
        self.assertEqual(desk.say(line="run"), "shown 1 ends")

    def test_the_first_document_and_number(self):
        text = "program y\nbody show group plus set y 0\n                     set y 1\n                y\n     each y 0 1\n       show y\n     show y\n"
        desk = Desk(text)
        runs = ["shown 1 shown 0 shown 1 shown 1 ends", "shown 1 shown 1 shown 0 shown 0 ends",
                "shown 0 shown 0 shown 1 shown 1 ends", "shown 0 shown 1 shown 0 shown 0 ends"]
        self.check(desk, ("run", runs[0]), ("choices", "4"), ("hangs", "((order) (walk))"))
        for at, run_line in enumerate(runs):
            self.check(desk, (f"choose {at}", "ok"), ("run", run_line))

    def test_put(self):
        desk = Desk(TEXT)
        self.check(desk, ("put body 2.1\nshow 2\nask", "ok"), ("text", put(TEXT, "body", (2, 1), "show 2\nask")), ("run", "shown 2 waits"),
                   ("give 3", "ok"), ("run", "shown 2 asked 3 shown 3 ends"), ("put body -\nx", "ok"), ("text", "program x\nbody\n  x\n"),
                   ("put p -\nx", "error BadPart"), ("put body 3\nx", "error BadPath"), ("put body -\ny", "error BadText"),
                   ("put body -\n", "error BadText"), ("put body -", "what"), ("put body\nx", "what"), ("put body - \nx", "what"),
                   ("put body 12\nx", "what"), ("put body 1.\nx", "what"), ("put body .1\nx", "what"), ("put show -\nx", "what"),
                   ("put q 1\ny", "error BadPart"), ("text", "program x\nbody\n  x\n"))

    def test_documents_numbers_options_and_inputs(self):
        desk = Desk(BIT)
        told = text_of(ANEW)
        self.check(desk, ("choose 3", "ok"), ("choose 4", "error BadChoice"), ("choose 1", "ok"), ("give 7", "ok"), ("run", "shown 1 shown 1 asked 7 shown 3 ends"),
                   (told, "ok"), ("choices", "2"), ("requests", "((order bit 1 left) (order bit 1 left))"),
                   ("run", "shown 1 shown 1 asked 7 shown 1 ends"), ("answer right", "ok"), ("requests", "((order bit 1 right) (order bit 1 left))"),
                   ("run", "shown 0 shown 1 asked 7 shown 1 ends"), ("answer left", "ok"), ("answer right", "ok"), ("answer up", "error BadOptions"),
                   ("answer 2", "error BadOptions"), ("answer none", "ok"), ("answer 4", "what"), ("choose 1", "ok"),
                   ("requests", "((order bit 1 left) (order bit 1 left))"), ("answer right", "ok"), ("again", "ok"), ("run", "shown 1 shown 1 waits"),
                   ("hangs", "()"), ("portable", "no"))
        self.check(desk, ("give 0", "ok"), ("give 8", "error BadInputs"), ("give 999", "error BadInputs"), ("give 1000", "what"), ("give 07", "what"),
                   ("give -1", "what"), ("give 1.0", "what"), ("give x", "what"), ("give", "what"), ("choose 00", "what"), ("choose 999", "error BadChoice"))

    def test_inputs_stay_and_options_go(self):
        desk = Desk(BIT)
        fresh = "program z\nbody show ask\n     show plus set z 1\n               z\n"
        self.check(desk, (text_of(ANEW), "ok"), ("give 1", "ok"), ("answer right", "ok"), (fresh, "ok"), ("requests", "((order body 2.1 left))"),
                   ("answer right", "ok"), ("run", desk_run(fresh, ["right"])),
                   (text_of(FIRST), "ok"), ("run", "asked 1 shown 1 shown 2 ends"), ("choose 2", "ok"), ("run", "asked 1 shown 1 shown 1 ends"),
                   ("put body 1\nask", "ok"), ("run", "asked 1 shown 2 ends"))

    def test_thirty_inputs(self):
        desk = Desk(TEXT)
        self.check(desk, *[("give 5", "ok")] * 30, ("give 5", "error BadInputs"), ("give 9", "error BadInputs"), ("again", "ok"), ("give 5", "ok"),
                   ("undo", "ok"), ("undo", "ok"), ("give 1", "error BadInputs"), ("redo", "ok"), ("redo", "ok"), ("redo", "error NothingUndone"))

    def test_at_most_50_events(self):
        desk = Desk("program x\nbody while 1\n     do show 2\n")
        self.check(desk, ("run", "shown 2 " * 50 + "more"), ("put body 2.1\nask", "ok"), ("run", "waits"))

    def test_undo_and_redo(self):
        desk = Desk(TEXT)
        other = "program x\nbody show 3\n"
        self.check(desk, (other, "ok"), ("undo", "ok"), ("text", TEXT), ("redo", "ok"), ("text", other), ("redo", "error NothingUndone"),
                   ("give 1", "ok"), ("give 2", "ok"), ("undo", "ok"), ("undo", "ok"), ("undo", "ok"), ("undo", "error NothingDone"), ("text", TEXT),
                   ("redo", "ok"), ("give 8", "error BadInputs"), ("foo", "what"), ("run", "shown 3 ends"), ("redo", "ok"), ("again", "ok"),
                   ("redo", "error NothingUndone"), ("undo", "ok"), ("undo", "ok"), ("text", other), ("undo", "ok"), ("text", TEXT))

    def test_errors_change_nothing(self):
        desk = Desk(TEXT)
        desk.say("give 4")
        before = [desk.say(line) for line in QUESTIONS]
        for line in ("program x", "program x\nbody y", "document ahead", "put p -\nx", "put body 9\nx", "put body -\nz", "choose 4", "answer left",
                     "give 8", "redo"):
            self.assertTrue(desk.say(line).startswith("error "), line)
            self.assertEqual([desk.say(line) for line in QUESTIONS], before)
        self.check(desk, ("undo", "ok"), ("undo", "error NothingDone"), ("redo", "ok"))

    def test_names_of_errors(self):
        wide = text_of(document(order=("place", ("left", "right")), fill=("anew", (0, 1, 2, 3)), walk=("anew", ("up", "down")), width=("run", (1, 2))))
        many = "program x\nbody" + "".join("\n  plus 1\n       1" for _ in range(9)) + "\n"
        desk = Desk(many)
        self.check(desk, (wide, "ok"), ("choices", "error TooMany"), ("run", "error TooMany"), ("requests", "error TooMany"), ("portable", "error TooMany"),
                   ("hangs", "error TooMany"), ("ruin", "error TooMany"), ("asks", "error TooMany"), ("choose 0", "error TooMany"), ("others", "1"))
        loops = "program x\nbody\n  while 1\n  do 2\n" + "     3\n" * 100
        self.check(desk, (loops, "ok"), ("others", "error TooMany"))
        self.check(Desk(TEXT), ("cut p -", "error BadPart"), ("cut body 0", "error BadPath"), ("program", "error BadText"), ("document", "error BadText"),
                   ("answer left", "error BadOptions"), ("give 31", "error BadInputs"))

    def test_other_lines(self):
        desk = Desk(TEXT)
        for line in STRANGE + NO_TEXTS[:1] + ("", " ", "\n", "text ", " text", "text\n", "text\ntext", "Text", "cut  body -", "cut body", "cut body - -", "cut body 1.2.",
                                              "cut body 10", "cut body 1..2", "cut program -", "cut 1 -", "places", "places width", "places order walk",
                                              "answer", "answer left right", "answer 04", "give 1 2", "undo 1", "programs x", "documents", " program x",
                                              "\nprogram x\nbody 1", "run\t", "run 5", "again\n", "what", "ok", "error", "put", "choose", "give 1\n", "undo\nredo"):
            self.assertEqual(desk.say(line), "what", line)
        self.check(desk, ("undo", "error NothingDone"))
        for line in (b"text", ["text"], ("text",), {"text": 1}, 5, None, True):
            self.assertEqual(desk.say(line), "what")

    def test_spots(self):
        text = "program x y\npart a plus set x 1\n            x\nbody show plus call a\n               each y 0 1\n                 0\n     show y\n     show 7\n"
        told = document(("part", ("left", "right")), ("place", ("up", "down")), width=("run", (1, 2)))
        desk = Desk(text)
        self.check(desk, (text_of(told), "ok"), ("hangs", "((order a) (walk body 1.1.2) (width))"), ("portable", "no"),
                   ("places walk", "((body 1.1.2))"), ("places order", "((a -) (body 1.1))"))

    def test_many_lines_against_the_slow_desk(self):
        maker, writer = Maker(501), Writer(502)
        answers = {}
        for _ in range(22):
            texts = [flat(writer, thing) for thing in self.programs(maker)] + [BIT]
            desk, slow = Desk(texts[0]), Slow(texts[0])
            for _ in range(28):
                line = self.line(maker, writer, texts)
                mine = desk.say(line)
                self.assertEqual(mine, slow.say(line), line)
                key = mine.split(" ")[0] + (mine.split(" ")[1] if mine.startswith("error") else "")
                answers[key] = answers.get(key, 0) + 1
            for line in QUESTIONS:
                self.assertEqual(desk.say(line), slow.say(line), line)
        self.assertGreater(answers["ok"], 150)
        self.assertGreaterEqual(len([key for key in answers if key.startswith("error")]), 6)

    def programs(self, maker):
        found = []
        while len(found) < 3:
            thing = nested(maker) if maker.some((True, False)) else maker.program(3, ("x", "y"))
            told = document(("place", ("left", "right")), ("anew", ("up", "down")), ("anew", (0, 1, "none")), ("run", (1, 2)))
            if few_standings(told, thing, 250):
                found.append(thing)
        return found

    def line(self, maker, writer, texts):
        documents = [text_of(told) for told in (FIRST, ANEW, document(("part", ("left", "right")), fill=("anew", (0, 1)), width=("run", (1, 2))))]
        rows = writer.rows_of(maker.some((("number", 1), ("show", ("number", 2)), ("then", ("ask",), ("show", ("ask",))))))
        return maker.some((
            maker.some(texts), maker.some(documents), "put body " + maker.some(("-", "1", "2", "1.1", "2.1", "1.2.1")) + "\n" + rows,
            "put p -\n" + rows, "choose " + maker.some("01239"), "answer " + maker.some(("left", "right", "up", "0", "1", "none")), "give " + maker.some("01238"),
            "give 1", "again", "undo", "undo", "undo", "redo", "redo", maker.some(QUESTIONS), maker.some(QUESTIONS), maker.some(QUESTIONS), "what now"))

    def test_equal_desks_answer_alike(self):
        """FACTS of [170]: whatever was said ahead; with texts that tell one program all but text and cut."""
        maker, writer = Maker(503), Writer(504)
        for _ in range(10):
            things = self.programs(maker)
            one = Desk(writer.text(things[1]))
            for _ in range(8):
                one.say(self.line(maker, writer, [flat(writer, things[2])]))
            text = flat(writer, things[0])
            setting = (text, text_of(maker.some((FIRST, ANEW))), "again", "choose " + maker.some("01"), "answer left", "give 1", "give 2")
            for line in setting:
                one.say(line)
            two, three = Desk(text), Desk(writer.text(things[0]))
            for line in setting[1:]:
                two.say(line)
                three.say(line)
            for line in QUESTIONS:
                self.assertEqual(one.say(line), two.say(line), line)
                if line.split(" ")[0] not in ("text", "cut"):
                    self.assertEqual(one.say(line), three.say(line), line)


def flat(writer, thing):
    """A text that begins in line 1 at column 1."""
    while True:
        text = writer.text(thing)
        if text.startswith("program"):
            return text


def desk_run(text, options):
    """What run answers by ANEW with one input 1."""
    thing = read(text)
    events, end = run(ANEW, thing, maker_of(ANEW, thing, choices(ANEW, thing)[0], options), [1], 50)
    return " ".join([f"{word} {one}" for word, one in events] + [end])


if __name__ == "__main__":
    unittest.main()
