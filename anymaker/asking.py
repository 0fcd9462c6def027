"""What programs ask of their makers: by which documents they show all, and by which all makers show the same."""

from anymaker.errors import BadPrograms
from anymaker.forms import is_listing
from anymaker.grades import below_of, graded_of, is_part, mask_of
from anymaker.judging import judge_document, judge_program
from anymaker.programs import is_program
from anymaker.sheets import sheet_of
from anymaker.wholes import Whole


def least_documents(document, program):
    """The least documents by which the program has all that it shows by this one."""
    judge_document(document)
    judge_program(program)
    rows = Below(document)
    return rows.least(has_all(document, [program]))


def lacking(document, program):
    """The greatest documents by which it has not all."""
    judge_document(document)
    judge_program(program)
    rows = Below(document)
    return rows.greatest(has_all(document, [program]))


def asks(document, program):
    """The greatest documents by which the program is portable."""
    judge_document(document)
    judge_program(program)
    return Below(document).greatest(strays([program]))


def refuses(document, program):
    """The least documents by which it is not portable."""
    judge_document(document)
    judge_program(program)
    return Below(document).least(strays([program]))


def common_asks(document, programs):
    """The greatest documents by which each of the programs is portable."""
    judge_programs(document, programs)
    return Below(document).greatest(strays(programs))


def common_least(document, programs):
    """The least documents by which each of the programs has all."""
    judge_programs(document, programs)
    rows = Below(document)
    return rows.least(has_all(document, programs))


def judge_programs(document, programs):
    judge_document(document)
    if not is_listing(programs) or not programs or not all([is_program(program) for program in programs]):
        raise BadPrograms("no list of one or more programs")


def has_all(document, programs):
    """The test whether by a document below each program shows all that it does by this one."""
    whole = graded_of(document)
    pairs = [(program, sheet_of(whole, program)) for program in programs]
    return lambda other: all([sheet_of(other, one) == shown for one, shown in pairs])


def strays(programs):
    """The test whether by a document below some program is not portable."""
    return lambda other: not all([Whole(other, one).is_steady(()) for one in programs])


class Below:
    """The documents below one, and tests that hold by all that are greater than one by which they do."""

    def __init__(self, document):
        self.rows = below_of(document)
        self.masks = [mask_of(row) for row in self.rows]

    def least(self, holds):
        """The documents by which the test holds, while by no lesser one it does."""
        told = self.told(holds)
        found = [at for at in told if told[at]]
        return self.picked([at for at in found if not any([self.is_lesser(other, at) for other in found])])

    def greatest(self, holds):
        """The documents by which the test does not hold, while by each greater one it does."""
        told = self.told(holds)
        found = [at for at in told if not told[at]]
        return self.picked([at for at in found if not any([self.is_lesser(at, other) for other in found])])

    def picked(self, indexes):
        return tuple([self.rows[at] for at in sorted(indexes)])

    def is_lesser(self, one, other):
        return one != other and is_part(self.masks[one], self.masks[other])

    def told(self, holds):
        """A dict from all indexes to whether the test holds; each look also tells of all above, or of all below."""
        found = {}
        unknown = sorted(range(len(self.rows)), key=lambda at: bits_in(self.masks[at]))
        while unknown:
            middle = unknown[len(unknown) // 2]
            fine = holds(self.rows[middle])
            for at in unknown:
                low, high = (middle, at) if fine else (at, middle)
                if is_part(self.masks[low], self.masks[high]):
                    found[at] = fine
            unknown = [at for at in unknown if at not in found]
        return found


def bits_in(mask):
    many = 0
    while mask:
        many += mask & 1
        mask = mask >> 1
    return many
