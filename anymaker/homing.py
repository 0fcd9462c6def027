"""Makers whose runs come home within so many asks, or inputs by which every maker's run roams."""

from anymaker.errors import BadMost
from anymaker.forms import is_between, is_number, is_row, is_word
from anymaker.games import games_of, judge_barred
from anymaker.keeping import game_by, is_table, reached_by

MOST_ASKS = 30


def homing(document, program, barred, most):
    """("home", choice, table) or ("roams", tables)."""
    judge_asks(document, program, barred, most)
    games = games_of(document, program, barred)
    homes = [home_of(game) for game in games]
    for game, home in zip(games, homes):
        if is_home(home, 0, most):
            return ("home", game.machine.choice, {number: home[number] for number in home})
    return ("roams", tuple([roaming_table(game, home, most) for game, home in zip(games, homes)]))


def fewest_asks(document, program, barred):
    """The least number of asks within which some maker comes home whatever comes in, or None."""
    judge_barred(document, program, barred)
    homes = [home_of(game) for game in games_of(document, program, barred)]
    return min([home[0][1] for home in homes if 0 in home], default=None)


def judge_asks(document, program, barred, most):
    judge_barred(document, program, barred)
    if most is not None and not is_between(most, 0, MOST_ASKS):
        raise BadMost("neither None nor a number from 0 to 30")


def is_home(home, number, most):
    """Whether a standing comes home within so many asks, None standing for however many."""
    return number in home and (most is None or home[number][1] <= most)


def home_of(game):
    """A dict from all standings that come home to triples (option, asks, steps), the asks being the fewest."""
    home = {}
    asks, many = 0, -1
    while many < len(home):
        many = len(home)
        fill(game, home, asks)
        asks += 1
    return home


def fill(game, home, asks):
    """Adds all standings that come home within so many asks and no fewer."""
    many = -1
    while many < len(home):
        many = len(home)
        for number in range(game.many - 1, -1, -1):
            if number not in home:
                found = homing_entry(game, home, number, asks)
                if found is not None:
                    home[number] = found


def homing_entry(game, home, number, asks):
    """The triple of a standing by what is at home already, or None."""
    if game.is_spoiling(number):
        return None
    reached = game.nexts(number)
    if game.asks(number):
        return (None, asks, 0) if all([is_home(home, one, asks - 1) for one in reached]) else None
    if game.is_end(number):
        return (None, asks, 0)
    pairs = [(None, one) for one in reached]
    if game.requests(number):
        pairs = game.answers(number)
    fine = [(option, one) for option, one in pairs if one in home]
    if not fine:
        return None
    option, one = fine[0]
    return (option, asks, home[one][2] + 1 if home[one][1] == asks else 0)


def roaming_table(game, home, most):
    """A dict from pairs of a standing that does not come home and how many asks are left."""
    table = {}
    pending = [(0, most)]
    while pending:
        pair = pending.pop()
        if pair not in table:
            given, reached = roaming_on(game, home, pair[0], pair[1])
            table[pair] = given
            pending.extend(reached)
    return table


def roaming_on(game, home, number, left):
    """The input that keeps a standing from home, or None, and the list of the pairs to which it goes on."""
    reached = game.nexts(number)
    if game.is_spoiling(number):
        return None, []
    if not game.asks(number):
        return None, [(one, left) for one in reached]
    if left == 0:
        return None, []
    behind = less_one(left)
    given = [at for at, one in enumerate(reached) if not is_home(home, one, behind)][0]
    return given, [(reached[given], behind)]


def less_one(left):
    return None if left is None else left - 1


def is_homing(document, program, barred, most, thing):
    """Whether any value is one of the two that homing may tell."""
    judge_asks(document, program, barred, most)
    games = games_of(document, program, barred)
    if is_row(thing, 3) and is_word(thing[0], ("home",)):
        game = game_by(document, program, games, thing[1])
        return game is not None and is_homing_table(game, most, thing[2])
    if not is_row(thing, 2) or not is_word(thing[0], ("roams",)) or not is_row(thing[1], len(games)):
        return False
    return all([is_roaming_table(game, most, table) for game, table in zip(games, thing[1])])


def is_homing_table(game, most, thing):
    if not is_table(game, thing) or not all([is_told(thing[number]) for number in thing]):
        return False
    if most is not None and thing[0][1] > most:
        return False
    return all([comes_nearer(game, thing, number) for number in thing])


def is_told(thing):
    """Whether any value is a triple of anything and two numbers from 0 on."""
    return is_row(thing, 3) and all([is_number(number) and number >= 0 for number in thing[1:]])


def comes_nearer(game, table, number):
    """Whether a standing of a homing table does not spoil, and goes on to ones that are nearer."""
    if game.is_spoiling(number):
        return False
    option, asks, steps = table[number]
    reached = game.nexts(number)
    if game.requests(number):
        reached = [reached_by(game, number, option)]
    elif option is not None:
        return False
    if not all([one in table for one in reached]):
        return False
    if game.asks(number):
        return all([table[one][1] < asks for one in reached])
    return all([table[one][1:] < (asks, steps) for one in reached])


def is_roaming_table(game, most, thing):
    if not isinstance(thing, dict) or not all([is_left(game, pair) for pair in thing]) or (0, most) not in thing:
        return False
    return all([roams(game, thing, pair) for pair in thing])


def is_left(game, thing):
    """Whether any value is a pair of a standing and how many asks are left."""
    if not is_row(thing, 2) or not game.is_number(thing[0]):
        return False
    return thing[1] is None or is_number(thing[1]) and thing[1] >= 0


def roams(game, table, pair):
    """Whether an item of a roaming table is not the end, and goes on in the table."""
    number, left = pair
    given = table[pair]
    reached = game.nexts(number)
    if game.asks(number) and left != 0:
        if not is_between(given, 0, 7):
            return False
        return (reached[given], less_one(left)) in table
    if given is not None or game.is_end(number):
        return False
    if game.is_spoiling(number) or game.asks(number):
        return True
    return all([(one, left) in table for one in reached])
