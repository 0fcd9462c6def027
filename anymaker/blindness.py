"""Finite makers that keep their runs from being spoilt, knowing only of which kinds the requests were."""

from anymaker.documents import anew_kinds, options_of
from anymaker.forms import is_number, is_row, is_word
from anymaker.games import games_of, judge_barred
from anymaker.keeping import game_by
from anymaker.makers import makes
from anymaker.runs import answer_of


def blind_keeping(document, program, barred):
    """("blind", maker) or ("sight", tables)."""
    judge_barred(document, program, barred)
    blinds = [Blind(game) for game in games_of(document, program, barred)]
    tables = [blind.lot_table() for blind in blinds]
    for blind, table in zip(blinds, tables):
        if blind.first is not None and blind.first not in table:
            return ("blind", blind.maker(table))
    return ("sight", tuple(tables))


class Blind:
    """Lots of standings with requests, as tuples of numbers; None stands for one that is spoilt."""

    def __init__(self, game):
        self.game = game
        self.document = game.machine.ground.document
        self.first = self.behind([0])

    def behind(self, numbers):
        """The lot behind some standings."""
        lot = []
        seen = {}
        pending = list(numbers)
        while pending:
            number = pending.pop()
            if number in seen:
                continue
            seen[number] = True
            if self.game.is_spoiling(number):
                return None
            if self.game.requests(number):
                lot.append(number)
            else:
                pending.extend(self.game.nexts(number))
        return tuple(sorted(lot))

    def kinds_in(self, lot):
        """The kinds of the requests in a lot, in order."""
        found = {self.game.step(number)[1]: True for number in lot}
        return [kind for kind in anew_kinds(self.document) if kind in found]

    def goes_on(self, lot, kind):
        """The pairs of each let option and the lot to which it goes on."""
        here = [number for number in lot if self.game.step(number)[1] == kind]
        found = []
        for at, option in enumerate(options_of(self.document, kind)):
            reached = [self.game.step(number)[3][at] for number in here]
            found.append((option, None if None in reached else self.behind(reached)))
        return found

    def ways(self):
        """A dict from all lots that come to the dict from their kinds to the pairs of option and lot."""
        found = {}
        pending = [] if self.first is None else [self.first]
        while pending:
            lot = pending.pop()
            if lot not in found:
                found[lot] = {kind: self.goes_on(lot, kind) for kind in self.kinds_in(lot)}
                for kind in found[lot]:
                    pending.extend([reached for _, reached in found[lot][kind] if reached is not None])
        return found

    def lot_table(self):
        """A dict from all lots that cannot be kept to pairs (kind, rank)."""
        ways = self.ways()
        table = {}
        many = -1
        while many < len(table):
            many = len(table)
            for lot in ways:
                for kind in ways[lot]:
                    reached = [one for _, one in ways[lot][kind] if one is not None]
                    if lot not in table and all([one in table for one in reached]):
                        table[lot] = (kind, max([table[one][1] + 1 for one in reached], default=0))
        return table

    def maker(self, table):
        """A maker that keeps blindly, by a lot table that does not have the first lot; its states are lots."""
        ways = self.ways()
        states = {}
        pending = [self.first]
        while pending:
            lot = pending.pop()
            if lot not in states:
                states[lot] = {kind: kept_way(ways[lot][kind], table) for kind in ways[lot]}
                pending.extend([states[lot][kind][1] for kind in states[lot]])
        places = {lot: at for at, lot in enumerate(states)}
        rows = [self.row_of_state(states[lot], places) for lot in states]
        return ("maker", self.game.machine.choice, tuple(rows))

    def row_of_state(self, answers, places):
        """The row of a state: a first option to requests that do not come."""
        row = []
        for kind in anew_kinds(self.document):
            option, lot = answers.get(kind, (options_of(self.document, kind)[0], self.first))
            row.append((option, places[lot]))
        return tuple(row)


def kept_way(pairs, table):
    """The first pair of an option and a lot that can be kept."""
    return [pair for pair in pairs if pair[1] is not None and pair[1] not in table][0]


def is_blind_keeping(document, program, barred, thing):
    """Whether any value is one of the two that blind_keeping may tell."""
    judge_barred(document, program, barred)
    games = games_of(document, program, barred)
    if not is_row(thing, 2) or not is_word(thing[0], ("blind", "sight")):
        return False
    if thing[0] == "blind":
        if not makes(document, program, thing[1]):
            return False
        return keeps_blindly(game_by(document, program, games, thing[1][1]), thing[1])
    if not is_row(thing[1], len(games)):
        return False
    return all([is_lot_table(Blind(game), table) for game, table in zip(games, thing[1])])


def keeps_blindly(game, maker):
    """Whether no inputs whatever spoil the run of a maker."""
    document = game.machine.ground.document
    seen = {}
    pending = [(0, 0)]
    while pending:
        number, state = pending.pop()
        if number is None or game.is_spoiling(number):
            return False
        if (number, state) in seen:
            continue
        seen[(number, state)] = True
        if game.requests(number):
            step = game.step(number)
            option, state = answer_of(document, maker, state, step[1])
            pending.append((step[3][options_of(document, step[1]).index(option)], state))
        else:
            pending.extend([(reached, state) for reached in game.nexts(number)])
    return True


def is_lot_table(blind, thing):
    """Whether any value is a lot table of the game."""
    if not isinstance(thing, dict) or not all([is_lot(blind.game, lot) for lot in thing]):
        return False
    if not all([is_row(thing[lot], 2) and is_number(thing[lot][1]) and thing[lot][1] >= 0 for lot in thing]):
        return False
    if blind.first is not None and blind.first not in thing:
        return False
    return all([is_lost(blind, thing, lot) for lot in thing])


def is_lot(game, thing):
    """Whether any value is an ascending tuple of different numbers of standings with requests."""
    if not isinstance(thing, tuple) or not all([game.is_number(number) for number in thing]):
        return False
    return list(thing) == sorted(set(thing)) and all([game.requests(number) for number in thing])


def is_lost(blind, table, lot):
    """Whether each option to requests of the told kind goes on to a spoilt lot, or to one of a lesser rank."""
    kind, rank = table[lot]
    if not is_word(kind, blind.kinds_in(lot)):
        return False
    reached = [one for _, one in blind.goes_on(lot, kind) if one is not None]
    return all([one in table and table[one][1] < rank for one in reached])
