"""Traces: how parts begin and end in linked runs, and which part is to blame."""

from anymaker.contracts import judge_contracts, tables_of
from anymaker.errors import BadTrace, NotAhead
from anymaker.forms import is_between, is_memory, is_row, is_word
from anymaker.linking import Linked, all_behind, back_from_call, call_at, end_at, judge_linked, ruins_at


def is_trace(document, program, thing):
    """Whether any value is a trace of some linked run."""
    judge_linked(document, program)
    return traces(document, program, thing)


def traces(document, program, thing):
    if not isinstance(thing, tuple):
        return False
    track = Track(Linked(document, program))
    return all([track.takes(item) for item in thing])


class Track:
    """All standings in which the parts at work can be, the innermost part last.

    What a called part does hangs on the memory with which it is begun, and not on where its caller stands.
    """

    def __init__(self, linked):
        self.linked = linked
        self.levels = []
        self.is_over = False

    def takes(self, item):
        """Goes on by an item; whether it can come next."""
        if self.is_over:
            return False
        if is_row(item, 1) and is_word(item[0], ("ruined",)):
            self.is_over = True
            return len(self.levels) > 0 and any([ruins_at(standing) for standing in self.levels[-1]])
        if not is_row(item, 3) or not isinstance(item[0], str):
            return False
        if not is_memory(item[2], len(self.linked.nothing), self.linked.size):
            return False
        if item[0] == "begins":
            return is_word(item[1], self.linked.names) and self.begin_part(item[1], item[2])
        return item[0] == "ends" and is_between(item[1], 0, self.linked.size - 1) and self.end_part(item[1:])

    def begin_part(self, name, memory):
        if self.levels:
            callers = [standing for standing in self.levels[-1] if call_at(standing) == (name, memory)]
            self.levels[-1] = callers
            if not callers:
                return False
        elif name != "body" or memory != self.linked.nothing:
            return False
        self.levels.append(up_to_calls(self.linked.parts[name].begun_with(memory)))
        return True

    def end_part(self, end):
        if not self.levels or not any([end_at(standing) == end for standing in self.levels[-1]]):
            return False
        self.levels.pop()
        if self.levels:
            self.levels[-1] = up_to_calls([back_from_call(standing, end) for standing in self.levels[-1]])
        self.is_over = not self.levels
        return True


def up_to_calls(standings):
    """These standings and all behind them, as far as calls."""
    return all_behind(standings, lambda name, memory: ())


def blame(document, program, contract, trace):
    """The index of the first item that does something against the contract, and its breach; or None."""
    judge_contracts(document, program, [contract])
    if not traces(document, program, trace):
        raise BadTrace("no trace of a linked run")
    tables = tables_of(program, contract)
    if (None,) * len(program[1]) not in tables["body"]:
        raise NotAhead("the body may not begin")
    works = []
    for index, item in enumerate(trace):
        fault = fault_of(tables, works, item)
        if fault is not None:
            return (index, works[-1] + (fault,))
        if item[0] == "begins":
            works.append(item[1:])
        else:
            works.pop()
    return None


def fault_of(tables, works, item):
    """What an item does against the contract, None if nothing; works are the parts at work with their memories."""
    if item[0] == "ruined":
        return item
    if item[0] == "begins":
        return None if item[2] in tables[item[1]] else ("ahead",) + item[1:]
    name, memory = works[-1]
    return None if item[1:] in tables[name][memory] else ("end",) + item[1:]
