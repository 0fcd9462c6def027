"""Wrong values of every parameter, each with its error, in the order in which they are judged."""

import copy
import importlib
import unittest

from anymaker import errors
from tests.samples import ASK, document, name, number, program, put, show, then
from tests.test_interface import FUNCTIONS

ONE = number(1)
TOLD = document(("ever", ("left", "right")), ("ever", ("up",)), ("anew", (0, "none")), ("run", (1,)))
WIDE = document(order=("place", ("left", "right")), fill=("run", (0, 1, 2)))
SUMS = program(then(*[("plus", ONE, ONE)] * 8))
THING = program(show(("plus", name("x"), ASK)), ("x", "y"), (("p", ONE),))
CHOICE = ("left", "up", None, 1)
MAKER = ("maker", CHOICE, (((0, 0),),))
STANDING = (("name", "x", ("body", (1, 1))), (None, 0))
BASE = ("left", "up", None, None)
CONTEXT = ("program", ("x",), (), show(("hole",)))

NO_DOCUMENT = (None, 1, (), TOLD[:5], list(TOLD), document(ruin="none"), document(fill=("run", (False,))))
NO_PROGRAM = (None, "program", (), list(THING), program(name("z")), program(("number", True)), program(("hole",)))
NO_CHOICE = (None, (), list(CHOICE), ("left", "up", 0, 1), ("left", "up", None, True), ("up", "up", None, 1))
NO_MAKER = (None, MAKER[:2], ("maker", CHOICE, ()), ("maker", CHOICE, (((1, 0),),)), ("maker", CHOICE, (((0, 1),),)),
            ("maker", CHOICE, (((0, False),),)), ("maker", CHOICE, [((0, 0),)]))
NO_INPUTS = (None, 1, "1", [8], [-1], [True], [None], {1: 1}, [[1]], ("1",))
NO_MOST = (None, -1, 201, True, "1", [1], 10 ** 9)
NO_STANDING = (None, (), STANDING[:1], list(STANDING), (STANDING[0], (None, 2)), (STANDING[0], [None, 0]),
               (name("x"), (None, 0)), (STANDING[0], (None, False)), (("name", "x", ("body", (1,))), (None, 0)))
NO_EVENTS = (None, 1, [], [("shown", 1)], (("shown", 8),), (("shown", True),), (("told", 1),), (["shown", 1],), ("shown", 1))
NO_SHOWING = (None, (), ((), "end"), ((), None), ([], "ends"), [(), "ends"], ((("shown", -1),), "ends"), ((), "ends", 1),
              (("shown", 1), "ends"))
NO_GOAL = (None, "more", "waits", "end", ("shown", 8), ("shown", False), ["shown", 1], ("shown",), 1, ())
NO_BASE = (None, CHOICE, (None, "up", None, None), ("left", "up", 0, None), ("left", "up", None, 1), list(BASE), ())
NO_PIECE = (None, ONE[:1], ASK, ("name", "x", 0), ("call", "p"), then(ASK, ONE), ("hole",), ["number", 1],
            then(name("a"), name("b"), name("c"), name("d")))
NO_CONTEXT = (None, (), program(ONE), list(CONTEXT), ("program", ("x",), (), then(("hole",), ("name", "x", 1))),
              ("program", (), (), ("hole",)), ("program", ("x",), (), then(("hole",), name("y"))),
              ("program", ("x",), (), ["hole"]), ("program", ("x",), (), ("set", ("hole",), ONE)), ("hole",))
NO_MEMORY = (None, 1, [0], (2,), (True,), ("0",), (-1,), (None,) * 4, (0, 2))
NO_NAMES = (None, "x", ["x"], ("y",), ("x", "x"), ("y", "x"), ("x", "body"), ("a", "b", "c", "x"), (), ("x", 1))
NO_LOT = (None, 1, "x", [()], [(0, 0)], [(2,)], [(True,)], [[0]], {0: 0}, [(0,), None])
NO_PAIRS = (None, 1, [], [("width", 1)], (("width", 2),), (("width", True),), (("order", "up"),), (("fill", False),),
            (("width", 1), ("order", "left")), (("order", "right"), ("order", "left")), (("width", 1),) * 2, ("width", 1),
            (["width", 1],), (("widths", 1),), (("fill", 0, 0),), ((["fill"], 0),), (("fill", [0]),))
NO_MANY = (None, -1, 201, True, "1", [1], (1,))
NO_LAST = NO_SHOWING + (((), "never"), ((("shown", 1),), "never"))
TERMS = (("left", "right"), ("up",), (0, 1, "none"), 1)
NO_TERMS = (None, (), TERMS[:3], list(TERMS), TERMS[:3] + (4,), TERMS[:3] + (True,), TERMS[1:], ((),) + TERMS[1:],
            (["left"],) + TERMS[1:], (("right", "left"),) + TERMS[1:], TERMS[:2] + ((False,), 1), TERMS[:2] + (("none", 0), 1))
NO_OWN_NAMES = (None, "x", ["x", "y"], (), ("x", "x"), ("x", "body"), ("a", "b", "c", "d"), ("x", 1), (["x"],), ("X",))
NO_PLAIN_PIECE = (None, ONE[:1], ("name", "x", 0), ("call", "p"), ("hole",), ["number", 1], name("z"), put("z", ONE),
                  ("each", "z", 0, 1, ONE), then(ONE, ("name", "y", 1)), show(("call", "p")))
NO_ENDS = (None, 1, [], [(0, (0, 0))], ((0, (0,)),), ((2, (0, 0)),), ((0, (0, 2)),), ((0, (0, True)),), ((False, (0, 0)),),
           ((1, (0, 0)), (0, (0, 0))), ((0, (0, 0)), (0, (None, 0))), ((0, (0, 0)),) * 2, ((0, [0, 0]),), ([0, (0, 0)],))
NO_SURE = (None, 1, (), [0, 0], (2, 0), (True, 0), ("0", 0), (-1, 0), (None,) * 4)
NO_HELD = (None, "x", ["x"], ("z",), ("y", "x"), ("x", "x"), ("x", 1), (["x"],), ("body",))
NO_ROW = (None, 1, [1], [], (8,), (-1,), (True,), ("1",), ((1,),), {1: 1})
MACHINE = ("machine", (("shows", 1, 1), ("asks", (0, 1) * 4)))
NO_MACHINE = (None, (), ("machine", ()), ("machine", [("ends",)]), ("machine", (("ends",), ("waits",))), MACHINE[1],
              ("machine", (("shows", 1, 1),)), ("machine", (("shows", True, 0),)), ("machine", (("asks", (0,) * 7),)))
NO_KEPT = (None, 1, "order", ["order"], ("fill",), ("walk", "order"), ("order", "order"), ("orders",), (1,), (["order"],))
NO_MODES = (None, (), ("kept",) * 3, ("kept",) * 5, ["kept"] * 4, ("kept", "kept", "kept", "anew"), ("kept", "run", "free", "free"),
            ("kept", "kept", None, "free"), "kept")
NO_GROUPING = (None, 0, (), (0,), (0, 0, 0), [0, 0], (1, 1), (0, 2), (0, True), (False, 0), (0, -1), (0, None), "00")
PLAIN = document(("run", ("left", "right")), ("run", ("up",)), ("run", (0, 1)), ("run", (2,)))
NO_PLAIN = NO_DOCUMENT + (document(width=("run", (1, 2))), document(fill=("run", ("none",))), document(fill=("anew", (0, "none"))))
PLACE = ("body", (1,))
PINS = ((PLACE, "left"),)
WRITING = PINS + ((("body", (1, 1)), 1),)
NO_PINS = (None, 1, [], list(PINS), PINS * 2, WRITING[::-1], ((PLACE, "up"),), ((PLACE, 0),), ((PLACE,),), (PLACE, "left"),
           ((("body", ()), "left"),), ((("p", ()), "left"),), ((("body", [1]), "left"),), ((("body", (True,)), "left"),),
           ((("body", (1, 1)), False),), ((("body", (1, 1)), "none"),), ([PLACE, "left"],))
NO_OWN_PINS = NO_PINS + (((("body", (1, 1)), 2),),)
NO_WRITING = NO_OWN_PINS + ((), PINS, WRITING[1:])
NO_OWN_PIECE = (None, ONE[:1], ("call", "p"), ("hole",), ["number", 1], then(name("a"), name("b"), name("c"), name("d")),
                then(*[ONE] * 16), ("plus", ONE, ("call", "p")))
NO_OPEN_PATH = (None, 1, (), [1], (1, 1), (2,), (True,), (3,), (1, 0), ("1",), ((1,),))
LOOSE = document(("part", ("left", "right")), ("ever", ("up",)), ("anew", (0, "none")), ("run", (1,)))
ENDS = ((0, (None, 1)), (1, (0, 0)))
CONTRACT = ("contract", ((((None, None), ENDS), ((None, 0), ())), (((None, None), ENDS),)))
NO_CONTRACT = (None, (), CONTRACT[:1], list(CONTRACT), ("contract", CONTRACT[1][:1]), ("contract", CONTRACT[1] * 2),
               ("contract", (CONTRACT[1][0][::-1], CONTRACT[1][1])), ("contract", (CONTRACT[1][0] + CONTRACT[1][0][:1], ())),
               ("contract", ((((None, 2), ()),), ())), ("contract", ((((None, True), ()),), ())), ("contract", ((((None,), ()),), ())),
               ("contract", ((((0, 0), ENDS[::-1]),), ())), ("contract", ((((0, 0), ENDS + ENDS[1:]),), ())),
               ("contract", ((((0, 0), ((2, (0, 0)),)),), ())), ("contract", ((((0, 0), [ENDS[0]]),), ())), ("contracts", CONTRACT[1]))
TRACE = (("begins", "body", (None, None)),)
NO_TRACE = (None, 1, [], list(TRACE), TRACE * 2, (("begins", "p", (None, None)),), (("begins", "body", (None, 0)),), ("ruined",),
            (("ruined",),), (("ends", 0, (None, None)),), TRACE + (("ends", True, (None, None)),), (("begins", "body", [None, None]),))
RECORD = (THING, (1, 2), ((("asked", 1), ("shown", 0)), "more"))
NO_RECORDS = (None, 1, [], (), RECORD, [RECORD] * 9, [list(RECORD)], [RECORD[:2]], [(THING, (2, 1), RECORD[2])], [(THING, (1, 8), RECORD[2])],
              [(THING, (1,), ((), "waits"))], [(THING, (1,), ((), "ruined"))], [(THING, (), ((("asked", 1),), "ends"))], {RECORD: 1},
              [RECORD, None], [(None,) + RECORD[1:]], [(THING, (1,), ([], "ends"))], [(THING, (1,), ((("shown", True),), "ends"))])
NO_BARRED = (None, 1, [], [1], (8,), (-1,), (True,), ("1",), (1, 0), (1, 1), (None,), {1: 1})
NO_ASKS = (-1, 31, True, "1", [1], (), "None")
NO_OPTIONS = (None, 1, [], (), {0: "left"}, {True: None}, {"0": None}, {10 ** 6: None}, {-1: None}, {None: None}, {0: 0}, {0: False},
              {1: None}, {1: "none "}, {1: False}, {1: 1}, {2: 0})
TEXT = "program x\npart p\n  ask\nbody show x\n"
NO_TEXT = (None, 1, [], ("program",), "program", "program x", "program x\nbody\n", "document ahead", "program x\nbody y", "body", "",
           "program x\nbody\tx", "program x\nbody \u00e9", b"program x", "Program x\nbody x", "program x x\nbody x")
NO_BEGINNING = tuple(text for text in NO_TEXT if text not in ("program", "program x", "program x\nbody\n", "document ahead", ""))
WHOLE_DOCUMENT = "document ahead order run left\n               walk run up\n               fill run 0\n               width run 1"
NO_PARTS = (None, "q", "x", ["p"], "", 1, "program", ("p",))
NO_PATHS = (None, 1, [], [1], (0,), (2,), (1, 1), (True,), ("1",), "-", (1, ()))
NO_ROWS = (None, 1, [], ("ask",), "", "  ", "y", "call q", "x x", "show", "group x", "group\n  x\n  x", "part q", "body x", "plus x", "\tx")

DOCUMENT = ("document", TOLD, NO_DOCUMENT, "BadDocument")
PROGRAM = ("program", THING, NO_PROGRAM, "BadProgram")
CHOICES = ("choice", CHOICE, NO_CHOICE, "BadChoice")
OLD = ("old", THING, NO_PROGRAM, "BadProgram")
NEW = ("new", THING, NO_PROGRAM, "BadProgram")
BASES = ("base", BASE, NO_BASE, "BadBase")
STANDINGS = ("standing", STANDING, NO_STANDING, "BadStanding")
SHOWING = ("showing", ((), "ends"), NO_SHOWING, "BadShowing")
GOAL = ("goal", "ends", NO_GOAL, "BadGoal")
ANY = ("thing", None, (), None)
RUN = (DOCUMENT, PROGRAM, ("maker", MAKER, NO_MAKER, "BadMaker"), ("inputs", [1, 2], NO_INPUTS, "BadInputs"),
       ("most", 7, NO_MOST, "BadMost"))
LOT = ("lot", (("order", "left"), ("fill", 0), ("width", 1)), NO_PAIRS, "BadPairs")
BAN = ("ban", (("order", "left"), ("fill", "none")), NO_PAIRS, "BadPairs")
MAKERS = ("maker", MAKER, NO_MAKER, "BadMaker")
LAST = ("showing", ((("asked", 1),), "more"), NO_LAST, "BadShowing")
MANY = ("many", 1, NO_MANY, "BadMany")
TERM = ("terms", TERMS, NO_TERMS, "BadTerms")
OWN_NAMES = ("names", ("x", "y"), NO_OWN_NAMES, "BadNames")
PLAIN_PIECE = ("piece", ("over", name("y"), name("x")), NO_PLAIN_PIECE, "BadPiece")
FILLED = ("n", 0, (None, "none", 1, False, -1, 8, "0", [0]), "BadNumber")
KEPT = ("kept", ("order", "width"), NO_KEPT, "BadKept")
PLAIN_DOCUMENT = ("document", PLAIN, NO_PLAIN, "BadDocument")
PIN = ("pins", PINS, NO_OWN_PINS, "BadPins")
WRITINGS = ("writing", WRITING, NO_WRITING, "BadPins")
OWN_PIECE = ("piece", then(("plus", ONE, ONE), name("x")), NO_OWN_PIECE, "BadPiece")
OPEN_PATH = ("path", (1,), (None, 1, (), [1], (1, 1), (True,), (3,), (1, 0), ("1",), ((1,),)), "BadPath")
LOOSE_DOCUMENT = ("document", LOOSE, NO_DOCUMENT, "BadDocument")
CONTRACTS = ("contract", CONTRACT, NO_CONTRACT, "BadContract")
PROGRAMS = ("programs", [THING, program(ONE)], (None, 1, [], (), THING, [None], [THING, ()], {THING: 1}), "BadPrograms")
FEW_PROGRAMS = PROGRAMS[:2] + (PROGRAMS[2] + ([THING] * 5,), "BadPrograms")
RECORDS = ("records", [RECORD, RECORD], NO_RECORDS, "BadRecords")
LEVEL = ("level", 2, (None, 0, 4, True, "1", [1], (2,)), "BadLevel")
SECOND = ("second", document(), NO_DOCUMENT, "BadSecond")
BARRED = ("barred", (0, 7), NO_BARRED, "BadBarred")
TEXTS = ("text", TEXT, NO_TEXT, "BadText")
PART = ("part", "body", NO_PARTS, "BadPart")
PATH = ("path", (1,), NO_PATHS, "BadPath")
ROWS = ("text", "ask\ncall p\ny", tuple(rows for rows in NO_ROWS if rows != "y") + ("z", "call body"), "BadText")
SIGNATURES = {
    "idle_everywhere": (PLAIN_DOCUMENT, OWN_PIECE),
    "told_by": (PLAIN_DOCUMENT, OWN_PIECE, OPEN_PATH),
    "is_told_by": (PLAIN_DOCUMENT, OWN_PIECE, OPEN_PATH, ANY),
    "graded": (DOCUMENT,),
    "is_under": (DOCUMENT, ("other", document(), NO_DOCUMENT, "BadDocument")),
    "below": (DOCUMENT,),
    "common": (DOCUMENT, ("other", document(), NO_DOCUMENT, "BadDocument")),
    "spanned": (DOCUMENT, ("other", document(), NO_DOCUMENT, "BadDocument")),
    "least_documents": (DOCUMENT, PROGRAM),
    "lacking": (DOCUMENT, PROGRAM),
    "asks": (DOCUMENT, PROGRAM),
    "refuses": (DOCUMENT, PROGRAM),
    "common_asks": (DOCUMENT, PROGRAMS),
    "common_least": (DOCUMENT, PROGRAMS),
    "outcomes": (LOOSE_DOCUMENT, PROGRAM, ("part", "p", NO_PARTS, "BadPart"),
                 ("memory", (None, 1), (None, 1, (), (0,), [0, 0], (0, 2), (0, True), ("0", 0), (0, 0, 0)), "BadMemory")),
    "is_contract": (LOOSE_DOCUMENT, PROGRAM, ANY),
    "breaches": (LOOSE_DOCUMENT, PROGRAM, CONTRACTS),
    "is_kept": (LOOSE_DOCUMENT, PROGRAM, CONTRACTS),
    "agreed": (LOOSE_DOCUMENT, PROGRAM, ("one", CONTRACT, NO_CONTRACT, "BadContract"), ("other", CONTRACT, NO_CONTRACT, "BadContract")),
    "merged": (LOOSE_DOCUMENT, PROGRAM, ("one", CONTRACT, NO_CONTRACT, "BadContract"), ("other", CONTRACT, NO_CONTRACT, "BadContract")),
    "least_contract": (("document", document(), NO_DOCUMENT, "BadDocument"), PROGRAM),
    "weakest_contract": (LOOSE_DOCUMENT, PROGRAM),
    "is_trace": (LOOSE_DOCUMENT, PROGRAM, ANY),
    "blame": (LOOSE_DOCUMENT, PROGRAM, CONTRACTS, ("trace", TRACE, NO_TRACE, "BadTrace")),
    "exchanged": (PROGRAM, ("part", "p", NO_PARTS, "BadPart"),
                  ("piece", ASK, (None, 1, (), ("call", "p"), ("call", "body"), name("z"), ("hole",), ["ask"], ("number", 8)), "BadPiece")),
    "deal": (DOCUMENT, RECORDS),
    "is_deal": (DOCUMENT, RECORDS, ANY),
    "quarrel": (DOCUMENT, RECORDS),
    "left_open": (DOCUMENT, RECORDS, ("kind", "order", (None, "fill", "width", 1, ["order"], "orders", ("walk",)), "BadKind")),
    "plain_document": (DOCUMENT, LEVEL),
    "is_inside": (DOCUMENT, SECOND, LEVEL),
    "telling": (DOCUMENT, SECOND, LEVEL),
    "is_telling": (DOCUMENT, SECOND, LEVEL, ANY),
    "keeping": (DOCUMENT, PROGRAM, BARRED),
    "is_keeping": (DOCUMENT, PROGRAM, BARRED, ANY),
    "homing": (DOCUMENT, PROGRAM, BARRED, ("most", 3, NO_ASKS, "BadMost")),
    "is_homing": (DOCUMENT, PROGRAM, BARRED, ("most", None, NO_ASKS, "BadMost"), ANY),
    "fewest_asks": (DOCUMENT, PROGRAM, BARRED),
    "played": (DOCUMENT, PROGRAM, CHOICES, ("options", {0: None, 1: 0, 2: None}, NO_OPTIONS, "BadOptions")) + RUN[3:],
    "blind_keeping": (DOCUMENT, PROGRAM, BARRED),
    "is_blind_keeping": (DOCUMENT, PROGRAM, BARRED, ANY),
    "keeping_all": (DOCUMENT, FEW_PROGRAMS, BARRED),
    "is_keeping_all": (DOCUMENT, FEW_PROGRAMS, BARRED, ANY),
    "can_follow": (("text", TEXT, NO_BEGINNING, "BadText"),),
    "read": (TEXTS,),
    "read_rows": (PROGRAM, PART, ROWS),
    "text_of": (("thing", THING, (None, 1, (), "program", ONE, list(THING), THING[:3], TOLD[:5]), "BadThing"),),
    "completed": (("text", "program x\nbody", NO_BEGINNING, "BadText"),),
    "span": (TEXTS, PART, PATH),
    "cut": (TEXTS, PART, PATH),
    "put": (TEXTS, PART, PATH, ("rows", "ask\nx", NO_ROWS, "BadText")),
    "others": (TEXTS,),
    "labelling": (DOCUMENT, PROGRAM, KEPT),
    "is_labelling": (DOCUMENT, PROGRAM, KEPT, ANY),
    "trouble": (DOCUMENT, PROGRAM, KEPT),
    "is_trouble": (DOCUMENT, PROGRAM, KEPT, ANY),
    "is_steady": (DOCUMENT, PROGRAM, KEPT),
    "is_portable": (DOCUMENT, PROGRAM),
    "is_repeatable": (DOCUMENT, PROGRAM),
    "first_unlike": (DOCUMENT, PROGRAM, KEPT),
    "hangs_on": (DOCUMENT, PROGRAM),
    "blamed": (DOCUMENT, PROGRAM, CHOICES),
    "by_modes": (DOCUMENT, ("modes", ("kept", "free", "anew", "free"), NO_MODES, "BadModes")),
    "borders": (DOCUMENT, PROGRAM),
    "steady_with": (DOCUMENT, PROGRAM, ("grouping", (0, 1), NO_GROUPING, "BadGrouping")),
    "groupings": (DOCUMENT, PROGRAM),
    "are_pins": (PLAIN_DOCUMENT, PROGRAM, ANY),
    "writings": (PLAIN_DOCUMENT, PROGRAM),
    "pinned": (PROGRAM, ("pins", WRITING, NO_PINS, "BadPins")),
    "unlike": (PLAIN_DOCUMENT, PROGRAM, ("one", WRITING, NO_WRITING, "BadPins"), ("other", WRITING, NO_WRITING, "BadPins")),
    "forces": (PLAIN_DOCUMENT, PROGRAM, PIN),
    "pin_change": (PLAIN_DOCUMENT, PROGRAM, PIN),
    "is_pin_change": (PLAIN_DOCUMENT, PROGRAM, PIN, ANY),
    "pin_tree": (PLAIN_DOCUMENT, PROGRAM, PIN),
    "is_pin_tree": (PLAIN_DOCUMENT, PROGRAM, PIN, ANY),
    "least_pins": (PLAIN_DOCUMENT, PROGRAM),
    "idle_places": (PLAIN_DOCUMENT, PROGRAM),
    "holding": (PLAIN_DOCUMENT, PROGRAM, WRITINGS),
    "shaking": (PLAIN_DOCUMENT, PROGRAM, WRITINGS),
    "way": (DOCUMENT, PROGRAM, GOAL, LOT),
    "is_way": (DOCUMENT, PROGRAM, GOAL, LOT, ANY),
    "barred": (DOCUMENT, PROGRAM, GOAL, BAN),
    "is_bar": (DOCUMENT, PROGRAM, GOAL, BAN, ANY),
    "departed": RUN[:3] + (("other", MAKER, NO_MAKER, "BadMaker"),) + RUN[3:],
    "departures": (DOCUMENT, PROGRAM, MAKERS, LAST),
    "floor": (DOCUMENT, PROGRAM, MAKERS, LAST, MANY),
    "is_floor": (DOCUMENT, PROGRAM, MAKERS, LAST, MANY, ANY),
    "remaining": (DOCUMENT, PROGRAM, ("events", (("asked", 1),), NO_EVENTS, "BadEvents")),
    "ruin": (DOCUMENT, PROGRAM),
    "before": (TERM, OWN_NAMES, PLAIN_PIECE, ("ends", ((0, (0, 0)), (0, (1, None)), (1, (None, 0))), NO_ENDS, "BadEnds")),
    "as_sure": (TERM, ("one", (0, 1), NO_SURE, "BadMemory"), ("other", (None, 1), NO_SURE + ((0,), (0, 0, 0)), "BadMemory")),
    "needs": (TERM, OWN_NAMES, PLAIN_PIECE),
    "tests": (TERM, OWN_NAMES, ("held", ("y",), NO_HELD, "BadHeld"), PLAIN_PIECE),
    "guard": (("width", 1, (None, 0, 4, True, "1", [1]), "BadWidth"),
              ("held", ("y", "x"), (None, "x", ["x"], ("x", "x"), ("a", "b", "c", "d"), ("x", 1), ("body",)), "BadHeld"),
              ("lot", ((0, 1), (1, 0)), (None, 1, [(0, 1)], ((0,),), ((0, 2),), ((0, True),), ((0, None),), ([0, 1],),
                                         ((1, 0), (0, 1)), ((0, 1), (0, 1))), "BadLot")),
    "set_ahead": (PROGRAM, ("names", ("x", "y"), (None, "x", ["x"], ("z",), ("y", "x"), ("x", "x"), ("x", 1)), "BadNames"),
                  ("n", 7, (None, 8, -1, True, "1", "none", [1]), "BadNumber")),
    "set_lots": (DOCUMENT, PROGRAM, FILLED),
    "ruin_lots": (DOCUMENT, PROGRAM, FILLED),
    "freed": (DOCUMENT, PROGRAM, ("row", (1, 2), NO_ROW, "BadRow")),
    "is_freed": (DOCUMENT, PROGRAM, ("row", (1, 2), NO_ROW, "BadRow"), ANY),
    "kept_rows": (DOCUMENT, PROGRAM),
    "shown_by": (("machine", MACHINE, NO_MACHINE, "BadMachine"), ("inputs", [1, 2], NO_INPUTS, "BadInputs"),
                 ("most", 7, NO_MOST, "BadMost")),
    "least_machine": (("machine", MACHINE, NO_MACHINE, "BadMachine"),),
    "machine_of": (DOCUMENT, PROGRAM, CHOICES),
    "is_choice": (DOCUMENT, PROGRAM, ANY),
    "choices": (DOCUMENT, PROGRAM),
    "is_maker": (DOCUMENT, PROGRAM, ANY),
    "maker_of": (DOCUMENT, PROGRAM, CHOICES, ("options", [0, "none"], (None, [1], [False], "none", ["left"]), "BadOptions")),
    "places": (PROGRAM, ("kind", "fill", (None, "width", 1, ["fill"]), "BadKind")),
    "placed": (PROGRAM, ("part", "p", (None, "q", "x", ["p"], "", 1), "BadPart")),
    "moves": (DOCUMENT, PROGRAM, CHOICES, STANDINGS),
    "standings": (DOCUMENT, PROGRAM, CHOICES),
    "events_of": (DOCUMENT, PROGRAM, CHOICES, STANDINGS),
    "run": RUN,
    "requests": RUN,
    "lot_behind": (DOCUMENT, PROGRAM, CHOICES, ("events", (("asked", 1),), NO_EVENTS, "BadEvents")),
    "comes": (DOCUMENT, PROGRAM, SHOWING),
    "is_coming": (DOCUMENT, PROGRAM, SHOWING, ANY),
    "sheet": (DOCUMENT, PROGRAM),
    "first_apart": (DOCUMENT, PROGRAM, ("other", THING, NO_PROGRAM, "BadProgram")),
    "least_lots": (DOCUMENT, PROGRAM, GOAL),
    "least_bans": (DOCUMENT, PROGRAM, GOAL),
    "widest": (DOCUMENT, PROGRAM, GOAL),
    "bases": (DOCUMENT, PROGRAM),
    "swallowed": (DOCUMENT,),
    "right_program": (DOCUMENT, OLD, NEW),
    "are_wrong_runs": (DOCUMENT, OLD, NEW, BASES, ANY),
    "table": (DOCUMENT, OLD, NEW, BASES, ("other", BASE, NO_BASE + (("right", "up", None, None),), "BadBase")),
    "is_table": (DOCUMENT, OLD, NEW, BASES, ("other", BASE, NO_BASE + (("right", "up", None, None),), "BadBase"), ANY),
    "filled": (("context", CONTEXT, NO_CONTEXT, "BadContext"), ("piece", name("x"), NO_PIECE, "BadPiece")),
    "covers": (DOCUMENT, CHOICES, ("memory", (0,), NO_MEMORY, "BadMemory"), ("lot", [(0,), (None,)], NO_LOT, "BadLot"),
               ("beside", [], NO_LOT, "BadLot")),
    "meaning": (DOCUMENT, ("piece", name("x"), NO_PIECE, "BadPiece"), ("names", ("x",), NO_NAMES, "BadNames"), CHOICES,
                ("memory", (0,), NO_MEMORY + ((), (0, 0)), "BadMemory")),
    "right_anywhere": (DOCUMENT, ("old", name("x"), NO_PIECE, "BadPiece"), ("new", name("y"), NO_PIECE, "BadPiece")),
}


def function_of(told):
    for module, rows in FUNCTIONS.items():
        for row in rows:
            if row.split("(")[0] == told:
                return getattr(importlib.import_module("anymaker." + module), told)
    raise KeyError(told)


def choices_of_model(told, thing):
    """The first choice of a program."""
    from anymaker.choices import choices
    return choices(told, thing)[0]


class RefusalTest(unittest.TestCase):
    def check(self, told, values, error):
        with self.assertRaises(errors.MakerError, msg=(told, values)) as caught:
            function_of(told)(*values)
        self.assertIs(caught.exception.__class__, getattr(errors, error), (told, values))

    def test_every_function_is_here_or_judges_any_value(self):
        told = {row.split("(")[0] for rows in FUNCTIONS.values() for row in rows}
        free = {"is_name", "words_of", "is_expression", "is_program", "is_document", "is_piece", "is_context",
                "is_terms", "is_machine"}
        self.assertEqual(told, set(SIGNATURES) | free)

    def test_good_values_are_taken_by_position_and_by_name(self):
        for told, signature in SIGNATURES.items():
            values = [one[1] for one in signature]
            by_position = function_of(told)(*values)
            self.assertEqual(by_position, function_of(told)(**{one[0]: one[1] for one in signature}), told)

    def test_each_wrong_value(self):
        for told, signature in SIGNATURES.items():
            for at, (_, _, wrong, error) in enumerate(signature):
                for thing in wrong:
                    values = [one[1] for one in signature]
                    values[at] = thing
                    self.check(told, values, error)

    def test_the_first_wrong_parameter_is_told(self):
        for told, signature in SIGNATURES.items():
            for at, (_, _, wrong, error) in enumerate(signature):
                for later in range(at + 1, len(signature)):
                    for thing in wrong[:3]:
                        for other in signature[later][2][:3]:
                            values = [one[1] for one in signature]
                            values[at] = thing
                            values[later] = other
                            self.check(told, values, error)

    def test_nothing_that_is_passed_is_changed(self):
        for told, signature in SIGNATURES.items():
            values = [one[1] for one in signature]
            kept = copy.deepcopy(values)
            one = function_of(told)(*values)
            self.assertEqual(values, kept, told)
            self.assertEqual(one, function_of(told)(*values), told)

    def test_judging_functions_take_any_value(self):
        from tests.nearly import STRANGE
        for told, signature in SIGNATURES.items():
            if signature[-1] == ANY:
                for thing in STRANGE + (("comes",), ("comes", 1, 2), ("not", ()), ("not", 1), ((),), (((),),), ((1, 2, 3),)):
                    values = [one[1] for one in signature[:-1]] + [thing]
                    expected = told in ("are_pins", "is_trace") and thing == ()
                    self.assertIs(function_of(told)(*values), expected, (told, thing))
        for told in ("is_name", "is_expression", "is_program", "is_document", "is_piece", "is_context", "is_terms",
                     "is_machine"):
            for thing in STRANGE:
                self.assertIs(function_of(told)(thing), told == "is_name" and thing == "x", (told, thing))


class TooManyTest(unittest.TestCase):
    """TooMany is raised behind all other errors."""

    def check(self, told, *values):
        with self.assertRaises(errors.TooMany, msg=told) as caught:
            function_of(told)(*values)
        self.assertEqual(caught.exception.most, 400)

    def test_more_than_400_choices(self):
        one = program(ONE)
        self.check("choices", WIDE, SUMS)
        self.check("bases", WIDE, SUMS)
        self.check("comes", WIDE, SUMS, ((), "ends"))
        self.check("is_coming", WIDE, SUMS, ((), "ends"), None)
        self.check("sheet", WIDE, SUMS)
        for pair in ((SUMS, one), (one, SUMS), (SUMS, SUMS)):
            self.check("first_apart", WIDE, *pair)
            self.check("right_program", WIDE, *pair)
            self.check("are_wrong_runs", WIDE, *pair, (("left",) * 8, "up", None, None), ())
            self.check("table", WIDE, *pair, (("left",) * 8, "up", None, None), (("left",) * 8, "up", None, None))
            self.check("is_table", WIDE, *pair, (("left",) * 8, "up", None, None), (("left",) * 8, "up", None, None), ())
        for told in ("least_lots", "least_bans", "widest"):
            self.check(told, WIDE, SUMS, "ends")
        for told in ("way", "barred"):
            self.check(told, WIDE, SUMS, "ends", ())
        for told in ("is_way", "is_bar"):
            self.check(told, WIDE, SUMS, "ends", (), None)
        self.check("remaining", WIDE, SUMS, ())
        self.check("ruin", WIDE, SUMS)
        self.check("freed", WIDE, SUMS, ())
        self.check("is_freed", WIDE, SUMS, (), None)
        self.check("kept_rows", WIDE, SUMS)
        for told in ("labelling", "trouble", "is_steady", "first_unlike"):
            self.check(told, WIDE, SUMS, ())
        for told in ("is_labelling", "is_trouble"):
            self.check(told, WIDE, SUMS, (), None)
        for told in ("is_portable", "is_repeatable", "hangs_on", "groupings"):
            self.check(told, WIDE, SUMS)
        self.check("steady_with", WIDE, SUMS, (0,))
        loose = document(order=("place", ("left", "right")), fill=("anew", (0, 1)))
        more = program(then(*[("plus", ONE, ONE)] * 9))
        for told in ("set_lots", "ruin_lots"):
            self.check(told, loose, more, 1)

    def test_part_10_and_12(self):
        for told in ("keeping", "fewest_asks", "blind_keeping"):
            self.check(told, WIDE, SUMS, ())
        for told in ("is_keeping", "is_blind_keeping"):
            self.check(told, WIDE, SUMS, (), None)
        self.check("homing", WIDE, SUMS, (), None)
        self.check("is_homing", WIDE, SUMS, (), 3, None)
        self.check("keeping_all", WIDE, [program(ONE), SUMS], ())
        self.check("is_keeping_all", WIDE, (SUMS,), (), None)
        self.check("played", WIDE, SUMS, (("left",) * 8, "up", 0, 1), {}, [], 3)
        record = (SUMS, (), ((), "ends"))
        for told in ("deal", "quarrel"):
            self.check(told, WIDE, [record])
        self.check("is_telling", WIDE, TOLD, 1, [record])

    def test_more_than_2000_standings(self):
        """Of one choice, behind all other errors, and behind more than 400 choices."""
        far = program(then(*[put(one, ASK) for one in ("x", "y", "z", "v")]), ("x", "y", "z", "v"))
        told = document(("run", ("left", "right")), fill=("place", (0, 1, 2, 3)), width=("run", (3,)))
        choice = choices_of_model(told, far)
        for name_, values in (("keeping", (told, far, ())), ("is_keeping", (told, far, (), None)), ("homing", (told, far, (), 3)),
                              ("is_homing", (told, far, (), None, None)), ("fewest_asks", (told, far, ())),
                              ("blind_keeping", (told, far, ())), ("is_blind_keeping", (told, far, (), None)),
                              ("keeping_all", (told, [far], ())), ("is_keeping_all", (told, [program(ONE), far], (), None)),
                              ("played", (told, far, choice, {}, [], 3)), ("standings", (told, far, choice))):
            with self.assertRaises(errors.TooMany, msg=name_) as caught:
                function_of(name_)(*values)
            self.assertEqual(caught.exception.most, 2000, name_)
        for name_, values, error in (("keeping", (told, far, None), "BadBarred"), ("homing", (told, far, (), 31), "BadMost"),
                                     ("played", (told, far, choice, {0: 1}, [], 3), "BadOptions"),
                                     ("played", (told, far, choice, {}, [8], 3), "BadInputs"),
                                     ("played", (told, far, choice, {}, [], 201), "BadMost"),
                                     ("keeping_all", (told, [far], (8,)), "BadBarred")):
            with self.assertRaises(getattr(errors, error)):
                function_of(name_)(*values)

    def test_loose_documents_come_behind_documents(self):
        tight = document(("run", ("left", "right")))
        for told in ("outcomes", "is_contract", "breaches", "is_kept", "agreed", "merged", "least_contract", "weakest_contract",
                     "is_trace", "blame"):
            many = len(SIGNATURES[told]) - 1
            for thing, error in ((None, errors.BadDocument), (tight, errors.Tight), (LOOSE, errors.BadProgram)):
                with self.assertRaises(error):
                    function_of(told)(thing, *[None] * many)

    def test_unlike_in_ruin_comes_behind_documents(self):
        for told in ("common", "spanned"):
            for one, other, error in ((None, document(ruin="whole"), errors.BadDocument), (document(), None, errors.BadDocument),
                                      (document(), document(ruin="whole"), errors.BadRuin)):
                with self.assertRaises(error):
                    function_of(told)(one, other)

    def test_other_errors_come_first(self):
        for told, values, error in (
                ("choices", (None, SUMS), "BadDocument"), ("bases", (WIDE, None), "BadProgram"),
                ("comes", (WIDE, SUMS, None), "BadShowing"), ("is_coming", (WIDE, SUMS, None, 1), "BadShowing"),
                ("first_apart", (WIDE, SUMS, None), "BadProgram"), ("least_bans", (WIDE, SUMS, None), "BadGoal"),
                ("right_program", (WIDE, SUMS, None), "BadProgram"),
                ("way", (WIDE, SUMS, "ends", None), "BadPairs"), ("is_bar", (WIDE, SUMS, None, (), 1), "BadGoal"),
                ("remaining", (WIDE, SUMS, None), "BadEvents"), ("labelling", (WIDE, SUMS, None), "BadKept"),
                ("is_trouble", (WIDE, SUMS, None, 1), "BadKept"), ("first_unlike", (WIDE, SUMS, ("order", "order")), "BadKept"),
                ("steady_with", (WIDE, SUMS, (1,)), "BadGrouping"), ("hangs_on", (WIDE, None), "BadProgram"), ("freed", (WIDE, SUMS, None), "BadRow"),
                ("set_lots", (WIDE, SUMS, None), "FixedFill"), ("ruin_lots", (WIDE, SUMS, 0), "FixedFill"),
                ("set_lots", (document(("place", ("left", "right")), fill=("anew", (0,))), SUMS, 1), "BadNumber"),
                ("are_wrong_runs", (WIDE, SUMS, None, 1, 1), "BadProgram")):
            with self.assertRaises(getattr(errors, error)):
                function_of(told)(*values)

    def test_functions_of_one_choice_do_not_count(self):
        choice = (("left",) * 8, "up", 0, 1)
        self.assertGreater(len(function_of("standings")(WIDE, SUMS, choice)), 8)
        self.assertTrue(function_of("is_choice")(WIDE, SUMS, choice))
        self.assertEqual(function_of("blamed")(WIDE, SUMS, choice), ())
        self.assertEqual(function_of("machine_of")(WIDE, SUMS, choice), ("machine", (("ends",),)))
        self.assertEqual(function_of("borders")(WIDE, SUMS), ((("anew", "anew", "anew", "free"),), ()))
        maker = ("maker", choice, ((),))
        self.assertEqual(function_of("departures")(WIDE, SUMS, maker, ((), "ends"))[0], 0)
        self.assertEqual(function_of("run")(WIDE, SUMS, ("maker", choice, ((),)), (), 1), ((), "ends"))
        self.assertEqual(len(function_of("lot_behind")(WIDE, SUMS, choice, ())),
                         len(function_of("standings")(WIDE, SUMS, choice)))


class ScopeTest(unittest.TestCase):
    """BadScope is raised directly behind BadDocument."""

    def test_the_first_kind_is_told(self):
        for told in ("covers", "meaning", "right_anywhere"):
            for given, kind in ((document(order=("part", ("left",))), "order"), (document(walk=("place", ("up",))), "walk"),
                                (document(fill=("part", (0,))), "fill"),
                                (document(walk=("part", ("up",)), fill=("place", (0,))), "walk"),
                                (document(order=("place", ("left",)), fill=("part", (0,))), "order")):
                values = [given] + [None] * (len(SIGNATURES[told]) - 1)
                with self.assertRaises(errors.BadScope) as caught:
                    function_of(told)(*values)
                self.assertEqual(caught.exception.kind, kind)

    def test_no_document_comes_first(self):
        for told in ("covers", "meaning", "right_anywhere"):
            with self.assertRaises(errors.BadDocument):
                function_of(told)(*[None] * len(SIGNATURES[told]))


if __name__ == "__main__":
    unittest.main()
