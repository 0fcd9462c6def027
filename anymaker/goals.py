"""Which options a goal needs, and which keep it away."""

from anymaker.choices import choices_of
from anymaker.documents import options_of, scope_of
from anymaker.errors import BadGoal
from anymaker.forms import KINDS, is_event, is_word
from anymaker.ground import Ground
from anymaker.judging import judge_document, judge_program
from anymaker.machine import Machine
from anymaker.stepping import explore
from anymaker.steps import answers_of, can_ruin, endless_of, event_nexts


def judge_goal(document, program, goal):
    judge_document(document)
    judge_program(program)
    if not is_event(goal) and not is_word(goal, ("ends", "never", "ruined")):
        raise BadGoal("no goal")


def least_lots(document, program, goal):
    """The least lots of pairs under which the goal comes."""
    judge_goal(document, program, goal)
    return told_lots(document, masks_to(document, program, goal))


def least_bans(document, program, goal):
    """The least lots of pairs of which each run that comes to the goal uses one."""
    judge_goal(document, program, goal)
    return told_lots(document, hitting(masks_to(document, program, goal)))


def widest(document, program, goal):
    """The documents without the pairs of a least ban, where each kind keeps an option."""
    found = []
    for ban in least_bans(document, program, goal):
        left = [without(document, kind, ban) for kind in KINDS]
        if all([pair[1] for pair in left]):
            found.append(("document",) + tuple(left) + (document[5],))
    return tuple(found)


def without(document, kind, ban):
    """The scope of a kind with the options that are not banned."""
    return (scope_of(document, kind), tuple([one for one in options_of(document, kind) if (kind, one) not in ban]))


def pairs_of(document):
    """All pairs of a kind and an option that is let, ascending."""
    return [(kind, option) for kind in KINDS for option in options_of(document, kind)]


def bits_of(mask, many):
    return [1 << rank for rank in range(many) if mask & 1 << rank]


def told_lots(document, masks):
    """Lots as they are told: fewer pairs first, then pair by pair."""
    pairs = pairs_of(document)
    lots = [tuple([rank for rank in range(len(pairs)) if mask & 1 << rank]) for mask in masks]
    lots = sorted(lots, key=lambda ranks: (len(ranks), ranks))
    return tuple([tuple([pairs[rank] for rank in lot]) for lot in lots])


def least_of(masks):
    """Those masks of which no other one is a part."""
    found = []
    for mask in by_size(masks):
        if not any([mask & one == one for one in found]):
            found.append(mask)
    return found


def by_size(masks):
    return sorted(masks, key=lambda mask: (len(bits_of(mask, mask.bit_length())), mask))


def hitting(masks):
    """The least masks that share a bit with each of these."""
    found = [0]
    for mask in masks:
        wider = [one for one in found if one & mask]
        for one in found:
            if not one & mask:
                wider.extend([one | bit for bit in bits_of(mask, mask.bit_length())])
        found = least_of(wider)
    return found


def masks_to(document, program, goal):
    """The least lots of pairs, as bits by their ranks, under which the goal comes."""
    pairs = pairs_of(document)
    bits = {pair: 1 << rank for rank, pair in enumerate(pairs)}
    ground = Ground(document, program)
    found = []
    for choice in choices_of(document, program):
        machine = Machine(ground, choice)
        machine.begin()
        explore(machine, None)
        width = bits[("width", choice[3])]
        graph = Graph(machine, bits)
        if not graph.comes(goal, graph.used):
            continue
        for mask in by_size(parts_of_mask(graph.used)):
            known = any([(mask | width) & one == one for one in found])
            if not known and graph.comes(goal, mask):
                found.append(mask | width)
    return least_of(found)


def parts_of_mask(mask):
    found = [0]
    for bit in bits_of(mask, mask.bit_length()):
        found = found + [one | bit for one in found]
    return found


class Graph:
    """The standings of a machine, with the bits of the pairs that steps use; 0 stands for none."""

    def __init__(self, machine, bits):
        self.machine = machine
        self.used = 0
        self.silent = []
        self.ruins = []
        for number in range(len(machine.pairs)):
            self.take_in(number, bits)

    def take_in(self, number, bits):
        step = self.machine.step(number)
        bit = bits.get(self.machine.uses.get(number), 0)
        ways = [(bit, reached) for _, reached in answers_of(self.machine, number)]
        ruining = bit
        if step[0] == "chooses":
            ways = [(bits[(step[1], option)], reached) for option, reached in answers_of(self.machine, number)]
            ruining = bits.get(("fill", "none"), 0)
        self.silent.append(ways)
        self.ruins.append(ruining if can_ruin(step) else None)
        for used, _ in ways:
            self.used = self.used | used
        if can_ruin(step):
            self.used = self.used | ruining

    def comes(self, goal, mask):
        """Whether some run comes to the goal that uses, up to there, no other pairs than these."""
        seen = {0: True}
        pending = [0]
        nexts = {}
        while pending:
            number = pending.pop()
            if self.is_at(number, goal, mask):
                return True
            ways = [reached for bit, reached in self.silent[number] if bit & mask == bit]
            nexts[number] = ways
            for reached in ways + [one for _, one in event_nexts(self.machine.step(number))]:
                if reached not in seen:
                    seen[reached] = True
                    pending.append(reached)
        return goal == "never" and len(endless_of(nexts)) > 0

    def is_at(self, number, goal, mask):
        """Whether the step of a standing comes to the goal, which is not "never"."""
        step = self.machine.step(number)
        if goal == "ends":
            return step[0] == "ends"
        if goal == "ruined":
            return self.ruins[number] is not None and self.ruins[number] & mask == self.ruins[number]
        return goal in [event for event, _ in event_nexts(step)]
