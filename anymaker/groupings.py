"""Groupings of parts: parts of one group are made by one maker."""

from anymaker.documents import scope_of
from anymaker.errors import BadGrouping, TooMany
from anymaker.forms import KINDS, is_between, is_row
from anymaker.judging import judge_document, judge_program
from anymaker.programs import parts_of
from anymaker.wholes import Whole

MOST_PARTS = 5


def steady_with(document, program, grouping):
    """Whether all makers whose choices are shared by the grouping show the same and are never ruined."""
    judge_document(document)
    judge_program(program)
    if not is_grouping(grouping, len(parts_of(program))):
        raise BadGrouping("no grouping of the parts")
    return is_steady_with(document, Whole(document, program), grouping)


def is_grouping(thing, many):
    """Whether any value is a grouping of so many parts."""
    if not is_row(thing, many):
        return False
    most = -1
    for number in thing:
        if not is_between(number, 0, most + 1):
            return False
        most = max(most, number)
    return True


def is_steady_with(document, whole, grouping):
    indexes = [index for index, choice in enumerate(whole.rows) if is_shared(document, choice, grouping)]
    return whole.is_steady_among(indexes)


def is_shared(document, choice, grouping):
    """Whether parts of one group have the same option of each kind of scope part."""
    for kind, item in zip(KINDS, choice):
        if scope_of(document, kind) == "part":
            told = {}
            for group, option in zip(grouping, item):
                if told.setdefault(group, option) != option:
                    return False
    return True


def groupings(document, program):
    """The finest groupings with which the program is steady, and the coarsest with which it is not."""
    judge_document(document)
    judge_program(program)
    many = len(parts_of(program))
    if many > MOST_PARTS:
        raise TooMany(MOST_PARTS)
    whole = Whole(document, program)
    every = all_groupings(many)
    steady = [grouping for grouping in every if is_steady_with(document, whole, grouping)]
    others = [grouping for grouping in every if grouping not in steady]
    finest = [one for one in steady if not any([is_finer(other, one) for other in steady])]
    coarsest = [one for one in others if not any([is_finer(one, other) for other in others])]
    return (tuple(finest), tuple(coarsest))


def all_groupings(many):
    """All groupings of so many parts, ascending."""
    rows = [(0,)]
    for _ in range(many - 1):
        rows = [row + (group,) for row in rows for group in range(max(row) + 2)]
    return rows


def is_finer(one, other):
    """Whether each group of one grouping lies in one group of an unlike one."""
    told = {}
    for mine, others in zip(one, other):
        if told.setdefault(mine, others) != others:
            return False
    return one != other
