"""The least contract that a program keeps, and the weakest one without breaches."""

from anymaker.contracts import contract_of
from anymaker.errors import Ruined, TooMany
from anymaker.linking import Linked, judge_linked, size_of
from anymaker.meanings import memories_of

MOST_MEMORIES = 200


def least_contract(document, program):
    """Ahead of each part is just what it is begun with in linked runs of the program."""
    judge_linked(document, program)
    linked = Linked(document, program)
    if linked.outcome("body", linked.nothing)[0]:
        raise Ruined("some linked run is ruined")
    tables = {name: {} for name in linked.names}
    pending = [("body", linked.nothing)]
    while pending:
        name, memory = pending.pop()
        if memory not in tables[name]:
            _, ends, calls = linked.outcome(name, memory)
            tables[name][memory] = ends
            pending.extend(list(calls))
    return contract_of(program, tables)


def weakest_contract(document, program):
    """Ahead of each part are all memories with which no linked run of it is ruined."""
    judge_linked(document, program)
    many = 1
    for _ in program[1]:
        many = many * (size_of(document) + 1)
    if many > MOST_MEMORIES:
        raise TooMany(MOST_MEMORIES)
    linked = Linked(document, program)
    memories = memories_of(linked.size, len(program[1]))
    tables = {}
    for name in linked.names:
        fine = [memory for memory in memories if not linked.outcome(name, memory)[0]]
        tables[name] = {memory: linked.outcome(name, memory)[1] for memory in fine}
    return contract_of(program, tables)
