"""All choices of a program side by side: what FIRST shows by each, and whether all makers do."""

from anymaker.choices import choices_of
from anymaker.documents import scope_of
from anymaker.fields import whole_field
from anymaker.firsts import NEVER, Firsts
from anymaker.forms import KINDS
from anymaker.programs import parts_of, places_of
from anymaker.steps import can_ruin


class Whole:
    """kinds has a number for each choice, equal just where FIRST shows the same."""

    def __init__(self, document, program):
        self.rows = choices_of(document, program)
        self.field = whole_field(document, program)
        self.firsts = Firsts(self.field)
        self.kinds = [self.firsts.class_at(begin) for begin in self.field.begins]
        self.flawed = {}
        for number in range(len(self.field.owners)):
            if is_flawed(self.firsts, number):
                self.flawed[self.field.owners[number]] = True

    def is_steady_among(self, indexes):
        """Whether by all of these choices all makers show the same, and are never ruined."""
        if any([index in self.flawed for index in indexes]):
            return False
        return all([self.kinds[index] == self.kinds[indexes[0]] for index in indexes])

    def is_steady(self, kept):
        return all([self.is_steady_among(indexes) for indexes in self.kept_alike(kept)])

    def kept_alike(self, kept):
        """The lists of the indexes of choices that are kept alike."""
        found = {}
        for index, choice in enumerate(self.rows):
            found.setdefault(kept_items(choice, kept), []).append(index)
        return list(found.values())


def is_flawed(firsts, number):
    """Whether some maker does at a standing what FIRST does not: a ruin, another answer or a silent round."""
    field = firsts.field
    kind = firsts.class_at(number)
    if can_ruin(field.step(number)):
        return True
    if number in field.endless and kind != firsts.classes[NEVER]:
        return True
    return any([firsts.class_at(reached) != kind for reached in field.silent[number]])


def kept_items(choice, kept):
    return tuple([item for kind, item in zip(KINDS, choice) if kind in kept])


def spots_of(document, program):
    """All spots (kind, at) to which choices give an option, as they have them."""
    found = []
    for kind in KINDS:
        scope = scope_of(document, kind)
        if scope == "part":
            found.extend([(kind, name) for name, _ in parts_of(program)])
        elif scope == "place":
            found.extend([(kind, place) for place in places_of(program, kind)])
        elif scope != "anew":
            found.append((kind, None))
    return found


def options_at_spots(choice):
    """The options that a choice gives to the spots, in their order."""
    found = []
    for item in choice:
        if isinstance(item, tuple):
            found.extend(item)
        elif item is not None:
            found.append(item)
    return found


def unlike_at(rows, spot, kinds):
    """Two indexes of rows of options that are unlike at this spot alone and of unlike kinds, or None."""
    first = {}
    for index, row in enumerate(rows):
        other = first.setdefault(tuple(row[:spot] + row[spot + 1:]), index)
        if kinds[index] != kinds[other]:
            return (other, index)
    return None
