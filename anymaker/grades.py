"""Grades of documents: how much they leave open, and documents below others."""

from anymaker.documents import is_document
from anymaker.errors import BadDocument, BadRuin, TooMany
from anymaker.forms import KINDS, OPTIONS
from anymaker.judging import judge_document

MOST_BELOW = 1000
GRADES = {"ever": 0, "program": 0, "run": 0, "part": 1, "place": 2, "anew": 3}
SCOPES = ("run", "part", "place", "anew")


def graded(document):
    """The graded document with the same options, grades and ruin."""
    judge_document(document)
    return graded_of(document)


def graded_of(document):
    return ruled_by([(grade_of(ruling), ruling[1]) for ruling in document[1:5]], document[5])


def grade_of(ruling):
    """The grade of a pair of a scope and options."""
    return 0 if len(ruling[1]) == 1 else GRADES[ruling[0]]


def ruled_by(pairs, ruin):
    """The graded document by a pair of a grade and options for each kind."""
    rulings = [(SCOPES[0 if len(options) == 1 else grade], tuple(options)) for grade, options in pairs]
    return ("document",) + tuple(rulings) + (ruin,)


def is_under(document, other):
    """Whether the other document leaves open all that this one does."""
    judge_both(document, other)
    return document[5] == other[5] and is_part(mask_of(document), mask_of(other))


def judge_both(document, other):
    judge_document(document)
    if not is_document(other):
        raise BadDocument("no document")


def mask_of(document):
    """What a document leaves open, as bits: one for each option, and one for each grade from 1 on."""
    mask = 0
    for kind, ruling in zip(KINDS, document[1:5]):
        bits = [option in ruling[1] for option in OPTIONS[kind]]
        bits = bits + [grade_of(ruling) > grade for grade in range(3)]
        for bit in bits:
            mask = 2 * mask + (1 if bit else 0)
    return mask


def is_part(mask, other):
    return mask & other == mask


def below(document):
    """All graded documents that are under this one."""
    judge_document(document)
    return below_of(document)


def below_of(document):
    rows = [pairs_under(kind, ruling) for kind, ruling in zip(KINDS, document[1:5])]
    many = 1
    for row in rows:
        many = many * len(row)
    if many > MOST_BELOW:
        raise TooMany(MOST_BELOW)
    order, walk, fill, width = rows
    return tuple([ruled_by([a, b, c, d], document[5]) for a in order for b in walk for c in fill for d in width])


def pairs_under(kind, ruling):
    """The pairs of a grade and options that a kind may have, in order."""
    lots = [()]
    for option in ruling[1]:
        lots = lots + [lot + (option,) for lot in lots]
    found = []
    for lot in lots[1:]:
        ranks = tuple([OPTIONS[kind].index(option) for option in lot])
        most = grade_of(ruling) if len(lot) > 1 else 0
        found.extend([(len(lot), ranks, grade, lot) for grade in range(most + 1)])
    return [(grade, lot) for _, _, grade, lot in sorted(found, key=lambda row: (row[0], row[1], row[2]))]


def common(document, other):
    """The greatest graded document under both, None if a kind has no option in common."""
    judge_alike(document, other)
    return common_of(document, other)


def judge_alike(document, other):
    judge_both(document, other)
    if document[5] != other[5]:
        raise BadRuin("the documents are unlike in ruin")


def common_of(document, other):
    pairs = []
    for mine, others in zip(document[1:5], other[1:5]):
        options = [option for option in mine[1] if option in others[1]]
        if not options:
            return None
        pairs.append((min(grade_of(mine), grade_of(others)), options))
    return ruled_by(pairs, document[5])


def spanned(document, other):
    """The least graded document that both are under."""
    judge_alike(document, other)
    pairs = []
    for kind, mine, others in zip(KINDS, document[1:5], other[1:5]):
        options = [option for option in OPTIONS[kind] if option in mine[1] or option in others[1]]
        pairs.append((max(grade_of(mine), grade_of(others)), options))
    return ruled_by(pairs, document[5])
