"""The interface: names of modules, functions, parameters and errors, as the document lists them."""

import importlib
import inspect
import unittest

FUNCTIONS = {
    "words": ("is_name(thing)", "words_of(text)"),
    "expressions": ("is_expression(thing)",),
    "programs": ("is_program(thing)", "places(program, kind)"),
    "documents": ("is_document(thing)",),
    "choices": ("is_choice(document, program, thing)", "choices(document, program)"),
    "makers": ("is_maker(document, program, thing)", "maker_of(document, program, choice, options)"),
    "placing": ("placed(program, part)",),
    "stepping": ("moves(document, program, choice, standing)", "standings(document, program, choice)"),
    "runs": ("run(document, program, maker, inputs, most)", "requests(document, program, maker, inputs, most)"),
    "nexts": ("events_of(document, program, choice, standing)",),
    "pieces": ("is_piece(thing)", "is_context(thing)", "filled(context, piece)"),
    "bases": ("bases(document, program)", "swallowed(document)"),
    "tables": ("table(document, old, new, base, other)", "is_table(document, old, new, base, other, thing)"),
    "rewriting": ("right_program(document, old, new)", "are_wrong_runs(document, old, new, base, thing)"),
    "covering": ("covers(document, choice, memory, lot, beside)",),
    "meanings": ("meaning(document, piece, names, choice, memory)",),
    "anywhere": ("right_anywhere(document, old, new)",),
    "lots": ("lot_behind(document, program, choice, events)",),
    "comings": ("comes(document, program, showing)", "is_coming(document, program, showing, thing)"),
    "sheets": ("sheet(document, program)", "first_apart(document, program, other)"),
    "goals": ("least_lots(document, program, goal)", "least_bans(document, program, goal)",
              "widest(document, program, goal)"),
    "ways": ("way(document, program, goal, lot)", "barred(document, program, goal, ban)",
             "is_way(document, program, goal, lot, thing)", "is_bar(document, program, goal, ban, thing)"),
    "departs": ("departed(document, program, maker, other, inputs, most)", "departures(document, program, maker, showing)",
                "floor(document, program, maker, showing, many)",
                "is_floor(document, program, maker, showing, many, thing)"),
    "remains": ("remaining(document, program, events)",),
    "ruins": ("ruin(document, program)",),
    "terms": ("is_terms(thing)",),
    "befores": ("before(terms, names, piece, ends)",),
    "sureness": ("as_sure(terms, one, other)", "needs(terms, names, piece)"),
    "guards": ("tests(terms, names, held, piece)", "guard(width, held, lot)"),
    "aheads": ("set_ahead(program, names, n)", "set_lots(document, program, n)", "ruin_lots(document, program, n)"),
    "freeds": ("freed(document, program, row)", "is_freed(document, program, row, thing)", "kept_rows(document, program)"),
    "machines": ("is_machine(thing)", "shown_by(machine, inputs, most)", "least_machine(machine)",
                 "machine_of(document, program, choice)"),
    "labellings": ("labelling(document, program, kept)", "is_labelling(document, program, kept, thing)"),
    "troubles": ("trouble(document, program, kept)", "is_trouble(document, program, kept, thing)"),
    "steadies": ("is_steady(document, program, kept)", "is_portable(document, program)",
                 "is_repeatable(document, program)", "first_unlike(document, program, kept)"),
    "blames": ("hangs_on(document, program)", "blamed(document, program, choice)"),
    "borders": ("by_modes(document, modes)", "borders(document, program)"),
    "groupings": ("steady_with(document, program, grouping)", "groupings(document, program)"),
    "pinning": ("are_pins(document, program, thing)", "writings(document, program)", "pinned(program, pins)",
                "unlike(document, program, one, other)"),
    "forcing": ("forces(document, program, pins)", "pin_change(document, program, pins)",
                "is_pin_change(document, program, pins, thing)"),
    "pintrees": ("pin_tree(document, program, pins)", "is_pin_tree(document, program, pins, thing)"),
    "leastpins": ("least_pins(document, program)", "idle_places(document, program)"),
    "shaking": ("holding(document, program, writing)", "shaking(document, program, writing)"),
    "everywhere": ("idle_everywhere(document, piece)", "told_by(document, piece, path)",
                   "is_told_by(document, piece, path, thing)"),
    "grades": ("graded(document)", "is_under(document, other)", "below(document)", "common(document, other)",
               "spanned(document, other)"),
    "asking": ("least_documents(document, program)", "lacking(document, program)", "asks(document, program)",
               "refuses(document, program)", "common_asks(document, programs)", "common_least(document, programs)"),
    "outcomes": ("outcomes(document, program, part, memory)",),
    "contracts": ("is_contract(document, program, thing)", "breaches(document, program, contract)",
                  "is_kept(document, program, contract)", "agreed(document, program, one, other)",
                  "merged(document, program, one, other)"),
    "ends": ("least_contract(document, program)", "weakest_contract(document, program)"),
    "traces": ("is_trace(document, program, thing)", "blame(document, program, contract, trace)"),
    "exchanges": ("exchanged(program, part, piece)",),
    "deals": ("deal(document, records)", "is_deal(document, records, thing)", "quarrel(document, records)",
              "left_open(document, records, kind)"),
    "plains": ("plain_document(document, level)", "is_inside(document, second, level)"),
    "telling": ("telling(document, second, level)", "is_telling(document, second, level, thing)"),
    "keeping": ("keeping(document, program, barred)", "is_keeping(document, program, barred, thing)"),
    "homing": ("homing(document, program, barred, most)", "is_homing(document, program, barred, most, thing)",
               "fewest_asks(document, program, barred)"),
    "playing": ("played(document, program, choice, options, inputs, most)",),
    "blindness": ("blind_keeping(document, program, barred)", "is_blind_keeping(document, program, barred, thing)"),
    "sharing": ("keeping_all(document, programs, barred)", "is_keeping_all(document, programs, barred, thing)"),
    "reading": ("can_follow(text)", "read(text)", "read_rows(program, part, text)"),
    "writing": ("text_of(thing)",),
    "endings": ("completed(text)",),
    "patches": ("span(text, part, path)", "cut(text, part, path)", "put(text, part, path, rows)"),
    "others": ("others(text)",),
}
METHODS = {"desk": {"Desk": ("__init__(self, text)", "say(self, line)")}}
PLAIN_ERRORS = (
    "BadBarred BadBase BadChoice BadContext BadContract BadDocument BadEnds BadEvents BadGoal BadGrouping BadHeld "
    "BadInputs BadKept BadKind BadLevel BadLot BadMachine BadMaker BadMany BadMemory BadModes BadMost BadNames "
    "BadNumber BadOptions BadPairs BadPart BadPath BadPiece BadPins BadProgram BadPrograms BadRecords BadRow BadRuin "
    "BadSecond BadShowing BadStanding BadTerms BadThing BadTrace BadWidth FixedFill NotAhead NotTold NothingDone "
    "NothingUndone OtherChoice Ruined Tight"
).split()
TELLING_ERRORS = {"BadScope": ("kind",), "BadText": ("line", "column", "wanted"), "TooMany": ("most",),
                  "Unnamed": ("name",)}


class InterfaceTest(unittest.TestCase):
    def test_functions_stand_in_their_modules_with_their_parameters(self):
        for module, rows in FUNCTIONS.items():
            found = importlib.import_module("anymaker." + module)
            for row in rows:
                name, parameters = row[:-1].split("(")
                function = getattr(found, name)
                self.assertEqual(function.__module__, "anymaker." + module)
                self.assertEqual(list(inspect.signature(function).parameters), parameters.split(", "))

    def test_classes_define_their_methods_themselves(self):
        for module, classes in METHODS.items():
            found = importlib.import_module("anymaker." + module)
            for name, rows in classes.items():
                self.assertEqual(getattr(found, name).__module__, "anymaker." + module)
                for row in rows:
                    method, parameters = row[:-1].split("(")
                    self.assertIn(method, vars(getattr(found, name)))
                    self.assertEqual(list(inspect.signature(vars(getattr(found, name))[method]).parameters), parameters.split(", "))

    def test_all_modules_of_the_document_are_here(self):
        from tests.test_language import ORDER
        self.assertEqual(set(ORDER), set(FUNCTIONS) | set(METHODS) | {"errors"})

    def test_plain_errors(self):
        errors = importlib.import_module("anymaker.errors")
        self.assertEqual(errors.MakerError.__bases__, (ValueError,))
        for name in PLAIN_ERRORS:
            error = getattr(errors, name)
            self.assertEqual(error.__bases__, (errors.MakerError,))
            self.assertEqual(str(error("a message")), "a message")

    def test_errors_with_attributes(self):
        errors = importlib.import_module("anymaker.errors")
        for name, attributes in TELLING_ERRORS.items():
            error = getattr(errors, name)
            self.assertEqual(error.__bases__, (errors.MakerError,))
            self.assertEqual(list(inspect.signature(error).parameters), list(attributes))
            values = tuple(range(1, 1 + len(attributes)))
            for made in (error(*values), error(**dict(zip(attributes, values)))):
                self.assertEqual(tuple(getattr(made, one) for one in attributes), values)

    def test_no_other_errors(self):
        errors = importlib.import_module("anymaker.errors")
        told = {name for name, thing in vars(errors).items() if inspect.isclass(thing)}
        self.assertEqual(told, set(PLAIN_ERRORS) | set(TELLING_ERRORS) | {"MakerError"})

    def test_the_package_itself_defines_nothing(self):
        package = importlib.import_module("anymaker")
        own = [name for name, thing in vars(package).items() if not name.startswith("__") and not inspect.ismodule(thing)]
        self.assertEqual(own, [])


if __name__ == "__main__":
    unittest.main()
