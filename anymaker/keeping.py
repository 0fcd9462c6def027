"""Makers that keep their runs from being spoilt whatever comes in, or inputs that spoil all of them."""

from anymaker.choices import choices_of, fits
from anymaker.forms import is_between, is_let, is_number, is_row, is_word
from anymaker.games import games_of, judge_barred


def keeping(document, program, barred):
    """("kept", choice, table) or ("spoilt", tables)."""
    judge_barred(document, program, barred)
    return kept_or_spoilt(games_of(document, program, barred))


def kept_or_spoilt(games):
    tables = [spoiling_table(game) for game in games]
    for game, table in zip(games, tables):
        if 0 not in table:
            return ("kept", game.machine.choice, keeping_table(game, table))
    return ("spoilt", tuple(tables))


def spoiling_table(game):
    """A dict from all standings from which each maker's run can be spoilt to pairs (input, rank)."""
    table = {}
    many = -1
    while many < len(table):
        many = len(table)
        for number in range(game.many - 1, -1, -1):
            if number not in table:
                found = spoiling_entry(game, table, number)
                if found is not None:
                    table[number] = found
    return table


def spoiling_entry(game, table, number):
    """The pair (input, rank) by what is in the table already, or None."""
    if game.is_spoiling(number):
        return (None, 0)
    if game.is_end(number):
        return None
    reached = game.nexts(number)
    if game.asks(number):
        found = [(given, table[one][1] + 1) for given, one in enumerate(reached) if one in table]
        return found[0] if found else None
    if not all([one in table for one in reached]):
        return None
    return (None, max([table[one][1] + 1 for one in reached], default=0))


def keeping_table(game, spoilt):
    """A keeping table, by a spoiling table that does not have the first standing."""
    table = {}
    pending = [0]
    while pending:
        number = pending.pop()
        if number in table:
            continue
        table[number] = None
        reached = game.nexts(number)
        if game.requests(number):
            fine = [pair for pair in game.answers(number) if pair[1] not in spoilt]
            table[number] = fine[0][0]
            reached = [fine[0][1]]
        pending.extend(reached)
    return table


def is_keeping(document, program, barred, thing):
    """Whether any value is one of the two that keeping may tell."""
    judge_barred(document, program, barred)
    games = games_of(document, program, barred)
    if is_row(thing, 3) and is_word(thing[0], ("kept",)):
        game = game_by(document, program, games, thing[1])
        return game is not None and is_keeping_table(game, thing[2])
    if not is_row(thing, 2) or not is_word(thing[0], ("spoilt",)) or not is_row(thing[1], len(games)):
        return False
    return all([is_spoiling_table(game, table) for game, table in zip(games, thing[1])])


def game_by(document, program, games, choice):
    """The game of a choice, None for any value that is none."""
    if not fits(document, program, choice, ("anew",)):
        return None
    return games[choices_of(document, program).index(choice)]


def is_table(game, thing):
    """Whether any value is a dict from numbers of standings, the first one among them."""
    return isinstance(thing, dict) and all([game.is_number(number) for number in thing]) and 0 in thing


def is_keeping_table(game, thing):
    return is_table(game, thing) and all([keeps(game, thing, number) for number in thing])


def keeps(game, table, number):
    """Whether a standing of a keeping table does not spoil, and goes on into the table."""
    if game.is_spoiling(number):
        return False
    if not game.requests(number):
        return table[number] is None and all([reached in table for reached in game.nexts(number)])
    reached = reached_by(game, number, table[number])
    return reached is not None and reached in table


def reached_by(game, number, option):
    """The standing behind an option of a request; None if it spoils, or for any value that is not let."""
    pairs = game.answers(number)
    if not is_let(option, [one for one, _ in pairs]):
        return None
    return [reached for one, reached in pairs if one == option][0]


def is_spoiling_table(game, thing):
    if not is_table(game, thing) or not all([is_ranked(game, number, thing[number]) for number in thing]):
        return False
    return all([goes_to_spoil(game, thing, number) for number in thing])


def is_ranked(game, number, thing):
    """Whether any value is a pair of an input, where one is asked for, and a rank."""
    if not is_row(thing, 2) or not is_number(thing[1]) or thing[1] < 0:
        return False
    return is_between(thing[0], 0, 7) if game.asks(number) else thing[0] is None


def goes_to_spoil(game, table, number):
    """Whether a standing of a spoiling table spoils, or goes on to ones with lesser ranks."""
    if game.is_spoiling(number):
        return True
    if game.is_end(number):
        return False
    given, rank = table[number]
    reached = game.nexts(number)
    if game.asks(number):
        reached = [reached[given]]
    return all([one in table and table[one][1] < rank for one in reached])
