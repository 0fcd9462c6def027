"""One maker for several programs: what is chosen for ever is the same for all of them."""

from anymaker.bases import ever_part, ever_parts
from anymaker.errors import BadPrograms
from anymaker.forms import is_between, is_listing, is_row, is_word
from anymaker.games import games_of, judge_numbers
from anymaker.judging import judge_document
from anymaker.keeping import game_by, is_keeping_table, is_spoiling_table, kept_or_spoilt
from anymaker.programs import is_program

MOST_PROGRAMS = 4


def keeping_all(document, programs, barred):
    """("kept", pairs) or ("spoilt", rows)."""
    judge_all(document, programs, barred)
    games = [games_of(document, program, barred) for program in programs]
    rows = []
    for ever in ever_parts(document):
        found = [kept_or_spoilt(games_with(document, some, ever)) for some in games]
        spoilt = [index for index, told in enumerate(found) if told[0] == "spoilt"]
        if not spoilt:
            return ("kept", tuple([told[1:] for told in found]))
        rows.append((spoilt[0], found[spoilt[0]][1]))
    return ("spoilt", tuple(rows))


def judge_all(document, programs, barred):
    judge_document(document)
    if not is_listing(programs) or not 1 <= len(programs) <= MOST_PROGRAMS:
        raise BadPrograms("no list of one to four programs")
    if not all([is_program(program) for program in programs]):
        raise BadPrograms("no list of programs")
    judge_numbers(barred)


def games_with(document, games, ever):
    """The games of the choices that have what is so for ever."""
    return [game for game in games if ever_part(document, game.machine.choice) == ever]


def is_keeping_all(document, programs, barred, thing):
    """Whether any value is one of the two that keeping_all may tell."""
    judge_all(document, programs, barred)
    games = [games_of(document, program, barred) for program in programs]
    if not is_row(thing, 2) or not isinstance(thing[1], tuple):
        return False
    if is_word(thing[0], ("kept",)):
        return are_kept(document, programs, games, thing[1])
    evers = ever_parts(document)
    if not is_word(thing[0], ("spoilt",)) or len(thing[1]) != len(evers):
        return False
    return all([are_spoilt(document, games, ever, row) for ever, row in zip(evers, thing[1])])


def are_kept(document, programs, games, thing):
    """Whether a tuple has for each program a choice and a keeping table, with the same that is so for ever."""
    if len(thing) != len(programs) or not all([is_row(pair, 2) for pair in thing]):
        return False
    for program, some, pair in zip(programs, games, thing):
        game = game_by(document, program, some, pair[0])
        if game is None or not is_keeping_table(game, pair[1]):
            return False
    return len(set([ever_part(document, choice) for choice, _ in thing])) == 1


def are_spoilt(document, games, ever, thing):
    """Whether any value is the index of a program, and spoiling tables for all of its choices with this ever part."""
    if not is_row(thing, 2) or not is_between(thing[0], 0, len(games) - 1):
        return False
    some = games_with(document, games[thing[0]], ever)
    if not is_row(thing[1], len(some)):
        return False
    return all([is_spoiling_table(game, table) for game, table in zip(some, thing[1])])
