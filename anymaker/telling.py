"""Experiments that tell one document from another."""

from anymaker.deals import Dealing, are_records, every
from anymaker.forms import KINDS, SIZES
from anymaker.plains import is_within_kind, is_within_ruin, judge_pair, told_options

SHOWN_AHEAD = ("then", ("show", ("number", 1)), ("over", ("number", 1), ("number", 0), "left"))
SHOWN = {
    "order": ("plus", ("show", ("number", 1)), ("show", ("number", 0))),
    "walk": ("each", "x", 0, 1, ("show", ("name", "x", 0))),
    "fill": ("show", ("name", "x")),
    "width": ("show", ("number", 7)),
}
NUMBERS = {"left": (1, 0), "right": (0, 1), "up": (0, 1), "down": (1, 0)}


def telling(document, second, level):
    """A list of as few records as possible that the document lets and the second one does not, or None."""
    judge_pair(document, second, level)
    if not is_within_ruin(document, second):
        return [record_of(SHOWN_AHEAD, (), ())]
    for kind in KINDS:
        if not is_within_kind(document, second, kind, 1):
            return [one_record(document, second, kind)]
    for kind in KINDS:
        if not is_within_kind(document, second, kind, level):
            return two_records(document, second, kind)
    return None


def is_telling(document, second, level, thing):
    """Whether any value is records of the level that the document lets and the second one does not."""
    judge_pair(document, second, level)
    if not are_records(thing) or not are_of_level(thing, level):
        return False
    mine, others = Dealing(document, thing), Dealing(second, thing)
    return mine.deal_for(every(thing)) is not None and others.deal_for(every(thing)) is None


def are_of_level(records, level):
    if level == 1:
        return len(records) == 1
    return level == 3 or all([record[0] == records[0][0] for record in records])


def record_of(body, parts, numbers):
    """The record of a run that shows these numbers and ends."""
    return (("program", ("x", "y"), parts, body), (), (tuple([("shown", number) for number in numbers]), "ends"))


def one_record(document, second, kind):
    """One run that the second document does not let: an option that it lacks, or two options in one run."""
    width = telling_width(document)
    mine, others = told_options(document, second, kind)
    if "none" in mine:
        return record_of(SHOWN[kind], (), ())
    lacking = [option for option in mine if option not in others]
    if lacking:
        return seen(kind, width, SHOWN[kind], (), lacking[:1])
    item = SHOWN[kind]
    scope = document[1 + KINDS.index(kind)][0]
    if scope == "part":
        return seen(kind, width, ("then", ("call", "p"), item), (("p", item),), mine[:2])
    if scope == "place":
        return seen(kind, width, ("then", item, item), (), mine[:2])
    return seen(kind, width, ("each", "y", 0, 1, item, "up"), (), mine[:2])


def two_records(document, second, kind):
    """Two runs of one program, or of two where the second document lets this, with unlike options."""
    width = telling_width(document)
    mine, _ = told_options(document, second, kind)
    item = SHOWN[kind]
    other = item
    if is_within_kind(document, second, kind, 2):
        other = ("then", item, ("number", 0))
    return [seen(kind, width, item, (), mine[:1]), seen(kind, width, other, (), mine[1:2])]


def telling_width(document):
    """The width by which most fills are told."""
    return max(document[4][1])


def seen(kind, width, body, parts, options):
    """The record of a run at this width in which the kind gets these options, one behind another.

    For a fill the width is shown ahead: at a lesser one unlike fills may show the same.
    """
    numbers = ()
    if kind == "fill":
        body = ("then", SHOWN["width"], body)
        numbers = (7 % SIZES[width],)
    for option in options:
        numbers = numbers + shown_by_option(kind, width, option)
    return record_of(body, parts, numbers)


def shown_by_option(kind, width, option):
    if kind == "width":
        return (7 % SIZES[option],)
    if kind == "fill":
        return (option % SIZES[width],)
    return NUMBERS[option]
