"""Games against inputs once more, by the words of part 12, over plain standings and slow."""

from anymaker.choices import choices, is_choice
from tests import model
from tests.samples import ASK, BIT, Maker, document, few_standings, name, number, program, put, show, then

KINDS = ("order", "walk", "fill", "width")


class Plain:
    """The standings of a choice by their numbers, with their moves."""

    def __init__(self, told, thing, choice, barred):
        self.told, self.choice = told, choice
        rows = model.standings(told, thing, choice)
        self.moves = [model.moves(told, thing, choice, one) for one in rows]
        self.at = {one: number for number, one in enumerate(rows)}
        self.barred = barred

    def spoils(self, number):
        move = self.moves[number]
        return move[0] == "ruined" or move[0] == "goes" and move[1] is not None and move[1][1] in self.barred

    def nexts(self, number):
        move = self.moves[number]
        return [self.at[one] for one in model.silent(move) + [one for _, one in model.eventful(move)]]

    def options(self, number):
        """The options of a request that do not spoil, with what is behind them; None where there is no request."""
        move = self.moves[number]
        if move[0] != "chooses":
            return None
        let = self.told[1 + KINDS.index(move[1])][1]
        return {option: self.at[one] for option, one in zip(let, move[3]) if one is not None}

    def asks(self, number):
        return self.moves[number][0] == "asks"

    def is_over(self, number):
        return self.moves[number][0] == "ends"

    def is_number(self, thing):
        return type(thing) is int and 0 <= thing < len(self.moves)


def is_whole(thing):
    return type(thing) is int and thing >= 0


def is_option(options, thing):
    """Whether any value is one of these options; True and 1 are unlike."""
    return any(type(one) is type(thing) and one == thing for one in options)


def is_keeping_table(plain, table):
    if type(table) is not dict or not all(map(plain.is_number, table)) or 0 not in table:
        return False
    for number, option in table.items():
        if plain.spoils(number):
            return False
        options = plain.options(number)
        if options is None:
            if option is not None or any(one not in table for one in plain.nexts(number)):
                return False
        elif not is_option(options, option) or options[option] not in table:
            return False
    return True


def is_spoiling_table(plain, table):
    if type(table) is not dict or not all(map(plain.is_number, table)) or 0 not in table:
        return False
    for number, pair in table.items():
        if type(pair) is not tuple or len(pair) != 2 or not is_whole(pair[1]):
            return False
        if plain.asks(number):
            if type(pair[0]) is not int or not 0 <= pair[0] <= 7:
                return False
        elif pair[0] is not None:
            return False
    for number, (given, rank) in table.items():
        if plain.spoils(number):
            continue
        if plain.is_over(number):
            return False
        reached = plain.nexts(number)
        if plain.asks(number):
            reached = [plain.at[plain.moves[number][1][given]]]
        if any(one not in table or table[one][1] >= rank for one in reached):
            return False
    return True


def is_homing_table(plain, most, table):
    if type(table) is not dict or not all(map(plain.is_number, table)) or 0 not in table:
        return False
    for triple in table.values():
        if type(triple) is not tuple or len(triple) != 3 or not is_whole(triple[1]) or not is_whole(triple[2]):
            return False
    if most is not None and table[0][1] > most:
        return False
    for number, (option, asks, steps) in table.items():
        if plain.spoils(number):
            return False
        options = plain.options(number)
        if options is None:
            reached = plain.nexts(number)
            if option is not None:
                return False
        elif not is_option(options, option):
            return False
        else:
            reached = [options[option]]
        if any(one not in table for one in reached):
            return False
        for one in reached:
            nearer = table[one][1] < asks or not plain.asks(number) and table[one][1] == asks and table[one][2] < steps
            if not nearer:
                return False
    return True


def is_roaming_table(plain, most, table):
    if type(table) is not dict:
        return False
    for pair in table:
        if type(pair) is not tuple or len(pair) != 2 or not plain.is_number(pair[0]):
            return False
        if pair[1] is not None and not is_whole(pair[1]):
            return False
    if (0, most) not in table:
        return False
    for (number, left), given in table.items():
        if plain.is_over(number):
            return False
        if plain.asks(number) and left != 0:
            if type(given) is not int or not 0 <= given <= 7:
                return False
            reached = plain.at[plain.moves[number][1][given]]
            if (reached, None if left is None else left - 1) not in table:
                return False
            continue
        if given is not None:
            return False
        if plain.spoils(number) or plain.asks(number):
            continue
        if any((one, left) not in table for one in plain.nexts(number)):
            return False
    return True


def is_told(thing, first, second, rows, is_good, is_bad):
    """Whether any value is (first, choice, good table) or (second, bad tables)."""
    if type(thing) is not tuple or not thing or type(thing[0]) is not str:
        return False
    if thing[0] == first and len(thing) == 3:
        return is_good(thing[1], thing[2])
    if thing[0] != second or len(thing) != 2 or type(thing[1]) is not tuple or len(thing[1]) != len(rows):
        return False
    return all(is_bad(plain, table) for plain, table in zip(rows, thing[1]))


def plains(told, thing, barred):
    return [Plain(told, thing, choice, barred) for choice in choices(told, thing)]


def model_is_keeping(told, thing, barred, value):
    rows = plains(told, thing, barred)

    def is_good(choice, table):
        if not is_choice(told, thing, choice):
            return False
        return is_keeping_table(next(plain for plain in rows if plain.choice == choice), table)
    return is_told(value, "kept", "spoilt", rows, is_good, is_spoiling_table)


def model_is_homing(told, thing, barred, most, value):
    rows = plains(told, thing, barred)

    def is_good(choice, table):
        if not is_choice(told, thing, choice):
            return False
        return is_homing_table(next(plain for plain in rows if plain.choice == choice), most, table)
    return is_told(value, "home", "roams", rows, is_good, lambda plain, table: is_roaming_table(plain, most, table))


def kept_set(plain):
    """The standings from which a seeing maker keeps: the greatest lot."""
    kept = {number for number in range(len(plain.moves)) if not plain.spoils(number)}
    while True:
        def stays(number):
            options = plain.options(number)
            if options is None:
                return all(one in kept for one in plain.nexts(number))
            return any(one in kept for one in options.values())
        fewer = {number for number in kept if stays(number)}
        if fewer == kept:
            return kept
        kept = fewer


def home_asks(plain):
    """The fewest asks within which a seeing maker comes home from each standing, by lots for each number of asks."""
    found = {}
    for asks in range(len(plain.moves) + 1):
        size = len(found)
        changed = True
        while changed:
            changed = False
            for number in range(len(plain.moves)):
                if number in found or plain.spoils(number):
                    continue
                options = plain.options(number)
                if plain.is_over(number):
                    fine = True
                elif plain.asks(number):
                    fine = all(found.get(one, asks) < asks for one in plain.nexts(number))
                elif options is None:
                    fine = all(one in found for one in plain.nexts(number))
                else:
                    fine = any(one in found for one in options.values())
                if fine:
                    found[number] = asks
                    changed = True
        if len(found) == size and asks:
            break
    return found


def risky(maker, depth, asks=True):
    """Something that is ruined by some answers, shows, and asks."""
    if depth == 0:
        return maker.some((name("x"), name("y"), number(1), number(0), BIT, ASK if asks else ONE_, ASK if asks else name("x"), show(name("x"))))
    inner = [risky(maker, maker.some((0, depth - 1)), asks) for _ in range(3)]
    return maker.some((("over", number(1), inner[0]), ("over", number(1), ("same", name("x"), name("y"))), then(put("x", inner[0]), inner[1]),
                       then(*inner[:2]), ("if",) + tuple(inner), show(inner[0]), ("plus", put("y", number(0)), put("y", number(1))),
                       ("while", inner[0], inner[1]), ("each", "x", 0, 1, inner[0]), put("y", inner[0]), ("plus", inner[0], inner[1])))


ONE_ = number(1)


def cases(seed, many, most=70, scopes=("anew", "anew", "anew", "run", "ever", "part"), asks=True):
    """Triples of a document, a program and what is barred."""
    maker = Maker(seed)
    found = []
    while len(found) < many:
        told = document((maker.some(scopes), maker.some((("left", "right"), ("left", "right"), ("left",)))),
                        (maker.some(scopes), maker.some((("up", "down"), ("up",)))),
                        (maker.some(scopes), maker.some(((0,), (0, 1), (1, "none"), (0, 1, "none")))),
                        (maker.some(("run", "ever")), maker.some(((1,), (1,), (2,), (1, 2)))))
        thing = program(then(risky(maker, 2, asks), risky(maker, 2, asks)), ("x", "y"))
        if few_standings(told, thing, most) and len(choices(told, thing)) <= 8:
            found.append((told, thing, maker.some(((), (), (0,), (1,), (1, 2), (0, 1, 3)))))
    return found


EXAMPLE = document(("anew", ("left", "right")))
SEEN = program(then(put("x", ASK), ("plus", put("y", number(0)), put("y", number(1))),
                    ("over", number(1), ("same", name("x"), name("y")))), ("x", "y"))
