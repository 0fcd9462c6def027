"""Contracts: with which memories parts may be begun, and how they may end from there."""

from anymaker.befores import are_ends
from anymaker.errors import BadContract
from anymaker.forms import is_memory, is_row, is_word
from anymaker.linking import Linked, ascending_ends, by_memories, course_of, judge_linked, size_of
from anymaker.meanings import ranks_of
from anymaker.programs import parts_of


def is_contract(document, program, thing):
    """Whether any value is a contract of the program."""
    judge_linked(document, program)
    return contracts(document, program, thing)


def contracts(document, program, thing):
    if not is_row(thing, 2) or not is_word(thing[0], ("contract",)) or not is_row(thing[1], len(parts_of(program))):
        return False
    return all([is_contract_row(row, len(program[1]), size_of(document)) for row in thing[1]])


def is_contract_row(thing, many, size):
    """Whether any value is an ascending tuple of pairs of a memory and ends, the memories being different."""
    if not isinstance(thing, tuple) or not all([is_row(pair, 2) for pair in thing]):
        return False
    if not all([is_memory(memory, many, size) and are_ends(ends, many, size) for memory, ends in thing]):
        return False
    ranks = [ranks_of(memory) for memory, _ in thing]
    return ranks == sorted(set(ranks))


def judge_contracts(document, program, rows):
    judge_linked(document, program)
    if not all([contracts(document, program, thing) for thing in rows]):
        raise BadContract("no contract of the program")


def tables_of(program, contract):
    """A dict from each part to the dict from the memories that are ahead of it to the ends behind it."""
    found = {}
    for pair, row in zip(parts_of(program), contract[1]):
        found[pair[0]] = {memory: ends for memory, ends in row}
    return found


def contract_of(program, tables):
    """The contract with these tables."""
    rows = []
    for name, _ in parts_of(program):
        rows.append(tuple(by_memories([(memory, tables[name][memory]) for memory in tables[name]])))
    return ("contract", tuple(rows))


def breaches(document, program, contract):
    """All breaches: what parts alone do against the contract."""
    judge_contracts(document, program, [contract])
    return breaches_of(document, program, contract)


def breaches_of(document, program, contract):
    linked = Linked(document, program)
    tables = tables_of(program, contract)
    found = []
    for name, row in zip(linked.names, contract[1]):
        for memory, ends in row:
            first = linked.parts[name].begun_with(memory)
            course = course_of(first, lambda part, here: tables[part].get(here, ()))
            found.extend([(name, memory, fault) for fault in faults_in(linked.names, tables, ends, course)])
    return tuple(found)


def faults_in(names, tables, ends, course):
    """The faults of a part that may come to these ends: ruined, then ahead, then end."""
    ruined, reached, calls = course
    found = []
    if ruined:
        found.append(("ruined",))
    wrong = [(part, memory) for part, memory in calls if memory not in tables[part]]
    wrong = sorted(wrong, key=lambda call: (names.index(call[0]), ranks_of(call[1])))
    found.extend([("ahead", part, memory) for part, memory in wrong])
    found.extend([("end",) + end for end in ascending_ends(reached) if end not in ends])
    return found


def is_kept(document, program, contract):
    """Whether there are no breaches, and the program may begin."""
    judge_contracts(document, program, [contract])
    if (None,) * len(program[1]) not in tables_of(program, contract)["body"]:
        return False
    return not breaches_of(document, program, contract)


def agreed(document, program, one, other):
    """The contract of what is ahead in both, with the ends that both have."""
    judge_contracts(document, program, [one, other])
    mine, others = tables_of(program, one), tables_of(program, other)
    tables = {}
    for name in mine:
        here = [memory for memory in mine[name] if memory in others[name]]
        tables[name] = {memory: shared_ends(mine[name][memory], others[name][memory]) for memory in here}
    return contract_of(program, tables)


def merged(document, program, one, other):
    """The contract of what is ahead in one or both, with the ends that all of them have that have it ahead."""
    judge_contracts(document, program, [one, other])
    mine, others = tables_of(program, one), tables_of(program, other)
    tables = {}
    for name in mine:
        rows = {memory: others[name][memory] for memory in others[name]}
        for memory in mine[name]:
            ends = mine[name][memory]
            rows[memory] = shared_ends(ends, rows.get(memory, ends))
        tables[name] = rows
    return contract_of(program, tables)


def shared_ends(one, other):
    return tuple([end for end in one if end in other])
