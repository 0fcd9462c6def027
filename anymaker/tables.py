"""Tables: why each showing of a new program is one of the old one, or free."""

from anymaker.bases import agree, extending, is_base
from anymaker.choices import choices_of
from anymaker.errors import BadBase
from anymaker.fields import field_of, whole_field
from anymaker.forms import is_number, is_row
from anymaker.judging import judge_document, judge_program
from anymaker.matching import Sides, searched


def judge_new_base(document, old, new, base):
    judge_document(document)
    judge_program(old)
    judge_program(new)
    choices_of(document, old)
    choices_of(document, new)
    if not is_base(document, new, base):
        raise BadBase("no base of the new program")


def judge_bases(document, old, new, base, other):
    judge_new_base(document, old, new, base)
    if not is_base(document, old, other):
        raise BadBase("no base of the old program")
    if not agree(document, base, other):
        raise BadBase("the bases do not agree")


def table(document, old, new, base, other):
    """The table of the rows that come, ascending, or None."""
    judge_bases(document, old, new, base, other)
    field = field_of(document, new, extending(document, new, base))
    sides = Sides(document, field_of(document, old, extending(document, old, other)), field)
    links, failed = searched(sides)
    if failed is not None:
        return None
    rows = [field.pair(row[0]) + (sides.lots.told_pairs(row[1]), sides.wides.told_pairs(row[2])) for row in links]
    return tuple(sorted(rows))


def is_table(document, old, new, base, other, thing):
    """Whether any value is a table; it may have rows that do not come."""
    judge_bases(document, old, new, base, other)
    if not isinstance(thing, tuple):
        return False
    check = Check(document, old, new)
    rows = [check.row_of(row) for row in thing]
    if None in rows or len(set(rows)) < len(rows):
        return False
    here = {row: True for row in rows}
    first = check.first_rows(extending(document, old, other), extending(document, new, base))
    return all([row in here for row in first]) and all([check.holds(row, here) for row in rows])


class Check:
    """All standings of both programs, and rows of a table by numbers of them."""

    def __init__(self, document, old, new):
        self.old = whole_field(document, old)
        self.new = whole_field(document, new)
        self.sides = Sides(document, self.old, self.new)
        self.old_numbers = numbers_of_pairs(self.old)
        self.new_numbers = numbers_of_pairs(self.new)

    def row_of(self, thing):
        """The row as one of Sides, None for any value that is none."""
        if not is_row(thing, 4) or not is_pair(thing[:2]) or thing[:2] not in self.new_numbers:
            return None
        lot = self.lot(self.sides.lots, thing[2])
        wide = self.lot(self.sides.wides, thing[3])
        if lot is None or wide is None:
            return None
        return (self.new_numbers[thing[:2]], lot, wide)

    def lot(self, lots, thing):
        """The index of a lot, None for any value that is none."""
        if not isinstance(thing, tuple) or not all([is_pair(pair) for pair in thing]):
            return None
        if not all([pair in self.old_numbers for pair in thing]):
            return None
        numbers = tuple([self.old_numbers[pair] for pair in thing])
        index = lots.least(numbers)
        return index if lots.rows[index] == numbers else None

    def first_rows(self, old_indexes, new_indexes):
        begins = [self.old.begins[index] for index in old_indexes]
        lot = self.sides.lots.least(begins)
        wide = self.sides.wides.least(begins)
        return [(self.new.begins[index], lot, wide) for index in new_indexes]

    def holds(self, row, here):
        """Whether a row is done, or without fault and has all rows behind it here."""
        if self.sides.is_done(row):
            return True
        if self.sides.fault(row) is not None:
            return False
        behind = self.sides.silent_rows(row) + self.sides.event_rows(row)
        return all([reached in here for _, reached in behind])


def numbers_of_pairs(field):
    return {field.pair(number): number for number in range(len(field.owners))}


def is_pair(thing):
    return is_row(thing, 2) and is_number(thing[0]) and is_number(thing[1])
