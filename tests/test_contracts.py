"""Points [131] to [133] and [136]: contracts, the least and the weakest one, two contracts."""

import itertools
import unittest

from anymaker.contracts import agreed, breaches, is_contract, is_kept, merged
from anymaker.ends import least_contract, weakest_contract
from anymaker.errors import BadContract, BadDocument, BadProgram, Ruined, Tight, TooMany
from anymaker.outcomes import outcomes
from tests import linked, model
from tests.linked import PLAIN, active_path, all_states, cases, end_rank, exchanged_at, first_states, node_of, rank
from tests.nearly import STRANGE, nearly
from tests.samples import document, name, number, program, put, then
from tests.test_outcomes import THING

ONE = number(1)
ZERO = number(0)
BOTH = ("left", "right")
ENDS = ((1, (1,)),)
WEAKEST = ("contract", ((((1,), ENDS),), (((None,), ENDS), ((0,), ENDS), ((1,), ENDS))))
LEAST = ("contract", ((((1,), ENDS),), (((None,), ENDS),)))


def parts_of(thing):
    return [part for part, _ in thing[2]] + ["body"]


def tables_of(thing, contract):
    return {part: dict(row) for part, row in zip(parts_of(thing), contract[1])}


def model_is_contract(told, thing, value):
    """By the words of [131]."""
    size = 2 ** told[4][1][0]

    def is_memory(one):
        return type(one) is tuple and len(one) == len(thing[1]) and all(
            worth is None or type(worth) is int and 0 <= worth < size for worth in one)

    def are_ends(ends):
        if type(ends) is not tuple or not all(
                type(end) is tuple and len(end) == 2 and type(end[0]) is int and 0 <= end[0] < size and is_memory(end[1])
                for end in ends):
            return False
        return all(end_rank(one) < end_rank(other) for one, other in zip(ends, ends[1:]))

    def is_row(row):
        if type(row) is not tuple or not all(
                type(pair) is tuple and len(pair) == 2 and is_memory(pair[0]) and are_ends(pair[1]) for pair in row):
            return False
        return all(rank(one[0]) < rank(other[0]) for one, other in zip(row, row[1:]))
    return (type(value) is tuple and len(value) == 2 and type(value[0]) is str and value[0] == "contract"
            and type(value[1]) is tuple and len(value[1]) == len(parts_of(thing)) and all(map(is_row, value[1])))


def model_breaches(told, thing, contract):
    """Each part alone, a call being one step, by the words."""
    tables = tables_of(thing, contract)
    found = []
    for part in parts_of(thing):
        for memory, ends in tables[part].items():
            faults = set()
            pending = [(choice, (rest, memory)) for _, _, choice, rest in linked.begun(told, thing, part, memory)]
            seen = set(pending)
            for choice, (rest, now) in pending:
                node = node_of(rest, active_path(rest))
                if node[0] == "call":
                    if now not in tables[node[1]]:
                        faults.add(("ahead", node[1], now))
                    behind = [(exchanged_at(rest, active_path(rest), ("number", worth)), after)
                              for worth, after in tables[node[1]].get(now, ())]
                else:
                    move = model.moves(told, thing, choice, (rest, now))
                    if move[0] == "ends" and (move[1], now) not in ends:
                        faults.add(("end", move[1], now))
                    if model.ruinous(move):
                        faults.add(("ruined",))
                    behind = model.silent(move) + [one for _, one in model.eventful(move)]
                for one in behind:
                    if (choice, one) not in seen:
                        seen.add((choice, one))
                        pending.append((choice, one))
            found += [(part, memory, fault) for fault in sorted(faults, key=lambda fault: fault_rank(thing, fault))]
    return tuple(found)


def fault_rank(thing, fault):
    if fault[0] == "ruined":
        return (0,)
    if fault[0] == "ahead":
        return (1, parts_of(thing).index(fault[1]), rank(fault[2]))
    return (2,) + end_rank(fault[1:])


def contracts_near(thing, *contracts):
    """Contracts that lack a memory or an end of these, or have those of another one."""
    found = list(contracts)
    for contract in contracts:
        for at, row in enumerate(contract[1]):
            for index, (memory, ends) in enumerate(row):
                rows = [row[:index] + row[index + 1:]]
                rows += [row[:index] + ((memory, ends[:one] + ends[one + 1:]),) + row[index + 1:] for one in range(len(ends))]
                found += [("contract", contract[1][:at] + (one,) + contract[1][at + 1:]) for one in rows]
    return list(dict.fromkeys(found))


class ContractTest(unittest.TestCase):
    def test_example(self):
        """[136] as it stands."""
        self.assertEqual(weakest_contract(document=PLAIN, program=THING), WEAKEST)
        self.assertEqual(least_contract(document=PLAIN, program=THING), LEAST)
        more = ("contract", ((((0,), ()), ((1,), ENDS)), WEAKEST[1][1]))
        self.assertEqual(breaches(document=PLAIN, program=THING, contract=more), (("half", (0,), ("ruined",)),))
        nothing = ("contract", ((), LEAST[1][1]))
        self.assertIn(("body", (None,), ("ahead", "half", (1,))), breaches(PLAIN, THING, nothing))
        self.assertEqual(len(breaches(PLAIN, THING, nothing)), 1)
        self.assertTrue(is_kept(document=PLAIN, program=THING, contract=WEAKEST))
        self.assertTrue(is_kept(PLAIN, THING, LEAST))
        self.assertFalse(is_kept(PLAIN, THING, more))
        self.assertFalse(is_kept(PLAIN, THING, nothing))

    def test_nothing_ahead(self):
        empty = ("contract", ((), ()))
        self.assertTrue(is_contract(document=PLAIN, program=THING, thing=empty))
        self.assertEqual(breaches(PLAIN, THING, empty), ())
        self.assertFalse(is_kept(PLAIN, THING, empty))

    def test_ends_that_are_not_behind(self):
        told = ("contract", ((((1,), ((0, (1,)),)),), (((None,), ()),)))
        self.assertEqual(breaches(PLAIN, THING, told),
                         (("half", (1,), ("end", 1, (1,))), ("body", (None,), ("end", 0, (1,)))))

    def test_calls_without_ends_behind_go_no_further(self):
        told = ("contract", ((((1,), ()),), (((None,), ()),)))
        self.assertEqual(breaches(PLAIN, THING, told), (("half", (1,), ("end", 1, (1,))),))

    def test_breaches_by_the_words(self):
        kinds = set()
        for told, thing in cases(241, 22):
            rows = contracts_near(thing, weakest_contract(told, thing))[:14] + list(self.odd(told, thing))
            for contract in rows:
                self.assertTrue(is_contract(told, thing, contract))
                found = breaches(told, thing, contract)
                self.assertEqual(found, model_breaches(told, thing, contract), (told, thing, contract))
                kinds |= {fault[0] for _, _, fault in found}
                begins = (None,) in tables_of(thing, contract)["body"]
                self.assertEqual(is_kept(told, thing, contract), not found and begins)
        self.assertEqual(kinds, {"ruined", "ahead", "end"})

    def odd(self, told, thing):
        """Contracts that let everything or nothing come back."""
        memories = sorted(itertools.product((None,) + tuple(range(2 ** told[4][1][0]))), key=rank)
        every = tuple(sorted(itertools.product(range(2 ** told[4][1][0]), memories), key=end_rank))
        for ends in ((), every, every[1:2]):
            yield ("contract", (tuple((memory, ends) for memory in memories),) * len(parts_of(thing)))

    def test_nearly_contracts(self):
        checked = {True: 0, False: 0}
        wide = document(("part", BOTH), width=("run", (2,)))
        two = program(("call", "p"), ("x", "y"), (("p", ("plus", put("x", ONE), name("x"))),))
        for told, thing in ((PLAIN, THING), (wide, two)):
            for contract in (weakest_contract(told, thing), least_contract(told, thing)):
                for other in nearly(("contract", tuple(row[:4] for row in contract[1]))):
                    fine = model_is_contract(told, thing, other)
                    self.assertIs(is_contract(told, thing, other), fine, other)
                    checked[fine] += 1
        self.assertGreater(min(checked.values()), 50)
        for other in STRANGE:
            self.assertIs(is_contract(PLAIN, THING, other), False)

    def test_wrong_values(self):
        for call in (breaches, is_kept):
            for other in STRANGE + (("contract", ()), ("contract", (LEAST[1][1],)), ("contract", LEAST[1][::-1] + ((),))):
                with self.assertRaises(BadContract):
                    call(PLAIN, THING, other)
            with self.assertRaises(Tight):
                call(document(("run", BOTH)), None, None)
            with self.assertRaises(BadProgram):
                call(PLAIN, None, None)


class LeastTest(unittest.TestCase):
    def test_the_least_by_all_linked_runs(self):
        found = set()
        for told, thing in cases(242, 40):
            states = all_states(told, thing, first_states(told, thing))
            ruined = any(item == ("ruined",) for state in states if state[0] for item, _ in linked.step(told, thing, state))
            found.add(ruined)
            if ruined:
                with self.assertRaises(Ruined):
                    least_contract(told, thing)
                continue
            begun = {part: set() for part in parts_of(thing)}
            for state in states:
                for part, memory, _, _ in state[0]:
                    begun[part].add(memory)
            rows = tuple(tuple((memory, outcomes(told, thing, part, memory)[1]) for memory in sorted(begun[part], key=rank))
                         for part in parts_of(thing))
            self.assertEqual(least_contract(told, thing), ("contract", rows))
        self.assertEqual(found, {True, False})

    def test_the_weakest(self):
        for told, thing in cases(243, 30):
            rows = []
            for part in parts_of(thing):
                comes = [(memory, outcomes(told, thing, part, memory)) for memory in ((None,), (0,), (1,))]
                rows.append(tuple((memory, ends) for memory, (ruined, ends) in comes if not ruined))
            self.assertEqual(weakest_contract(told, thing), ("contract", tuple(rows)))

    def test_hearts(self):
        """HEART of [132]: no ruin, the weakest is kept, some contract is kept: all or none of them."""
        met = {True: 0, False: 0}
        for told, thing in cases(244, 40):
            weakest = weakest_contract(told, thing)
            self.assertEqual(breaches(told, thing, weakest), ())
            safe = not linked.outcome(told, thing, "body", (None,))[0]
            self.assertEqual(is_kept(told, thing, weakest), safe)
            met[safe] += 1
            near = contracts_near(thing, weakest)[:20]
            if safe:
                least = least_contract(told, thing)
                self.assertTrue(is_kept(told, thing, least))
                near += contracts_near(thing, least)[:10]
            for contract in near:
                if breaches(told, thing, contract):
                    continue
                self.assertTrue(safe or not is_kept(told, thing, contract))
                self.holds_all(thing, contract, weakest)
                if is_kept(told, thing, contract):
                    self.holds_all(thing, least, contract)
        self.assertGreater(min(met.values()), 5)

    def holds_all(self, thing, one, other):
        """What is ahead in one is so in the other, and what is behind from there in the other is so in one."""
        mine, others = tables_of(thing, one), tables_of(thing, other)
        for part in mine:
            for memory in mine[part]:
                self.assertIn(memory, others[part])
                self.assertLessEqual(set(others[part][memory]), set(mine[part][memory]))

    def test_too_many_memories(self):
        fine = document(width=("run", (2,)))
        for variables, told, many in ((("x", "y", "z"), fine, 125), (("x", "y"), document(width=("run", (3,))), 81),
                                      (("a", "b", "c", "d"), document(), 81)):
            self.assertEqual(len(weakest_contract(told, program(ONE, variables))[1][0]), many)
        for variables, told in ((("a", "b", "c", "d"), fine), (("x", "y", "z"), document(width=("run", (3,))))):
            with self.assertRaises(TooMany) as caught:
                weakest_contract(told, program(ONE, variables))
            self.assertEqual(caught.exception.most, 200)
            self.assertEqual(least_contract(told, program(ONE, variables)),
                             ("contract", ((((None,) * len(variables), ((1, (None,) * len(variables)),)),),)))

    def test_wrong_values(self):
        for call in (least_contract, weakest_contract):
            with self.assertRaises(BadDocument):
                call(None, None)
            with self.assertRaises(Tight):
                call(document(("ever", BOTH)), None)
            with self.assertRaises(BadProgram):
                call(PLAIN, None)
        with self.assertRaises(Ruined):
            least_contract(PLAIN, program(("over", ONE, ZERO)))

    def test_parts_that_call_one_another(self):
        parts = (("a", then(put("x", ("plus", name("x"), ONE, "left")), name("x"))), ("b", then(("call", "a"), ("call", "a"))),
                 ("c", ("if", ("call", "b"), ("call", "a"), ("call", "b"))))
        thing = program(("call", "c"), ("x",), parts)
        told = document(width=("run", (2,)))
        found = least_contract(told, thing)
        self.assertEqual([[memory for memory, _ in row] for row in found[1]], [[(None,), (1,), (2,)], [(None,)], [(None,)], [(None,)]])
        self.assertEqual(found[1][3], (((None,), ((3, (3,)),)),))
        self.assertTrue(is_kept(told, thing, found))


class TwoTest(unittest.TestCase):
    def test_ordinary(self):
        one = ("contract", ((((0,), ()), ((1,), ENDS)), (((None,), ((0, (0,)), (1, (1,)))),)))
        other = ("contract", ((((1,), ((0, (1,)), (1, (1,)))),), (((None,), ((1, (1,)), (1, (None,)))[::-1]), ((1,), ENDS))))
        self.assertEqual(agreed(document=PLAIN, program=THING, one=one, other=other),
                         ("contract", ((((1,), ENDS),), (((None,), ENDS),))))
        self.assertEqual(merged(document=PLAIN, program=THING, one=one, other=other),
                         ("contract", ((((0,), ()), ((1,), ENDS)), (((None,), ENDS), ((1,), ENDS)))))

    def test_many(self):
        """HEART of [133], and the words of both."""
        fine = 0
        for told, thing in cases(245, 16):
            rows = contracts_near(thing, weakest_contract(told, thing))[:9]
            for one, other in itertools.product(rows, repeat=2):
                mine, others = tables_of(thing, one), tables_of(thing, other)
                both, any_of = agreed(told, thing, one, other), merged(told, thing, one, other)
                for part, shared, joined in zip(parts_of(thing), both[1], any_of[1]):
                    here = [memory for memory in ((None,), (0,), (1,)) if memory in mine[part] and memory in others[part]]
                    self.assertEqual([memory for memory, _ in shared], here)
                    self.assertEqual([memory for memory, _ in joined],
                                     [memory for memory in ((None,), (0,), (1,)) if memory in mine[part] or memory in others[part]])
                    for memory, ends in joined:
                        rest = [table[part][memory] for table in (mine, others) if memory in table[part]]
                        self.assertEqual(ends, tuple(end for end in rest[0] if end in rest[-1]))
                        if memory in here:
                            self.assertEqual(dict(shared)[memory], ends)
                if not breaches(told, thing, one) and not breaches(told, thing, other):
                    self.assertEqual(breaches(told, thing, both), ())
                    self.assertEqual(breaches(told, thing, any_of), ())
                    fine += one != other
        self.assertGreater(fine, 20)

    def test_with_all_ends_of_both_it_need_not_be_so(self):
        """[133]: what one lets come back the other one has not looked at."""
        thing = program(("over", ONE, ("call", "p")), ("x",), (("p", name("x")),))
        told = document(fill=("run", (1,)))
        one = ("contract", ((((None,), ((1, (None,)),)),), (((None,), ((1, (None,)),)),)))
        other = ("contract", ((((None,), ((0, (None,)), (1, (None,)))),), ()))
        self.assertEqual(breaches(told, thing, one) + breaches(told, thing, other), ())
        wide = ("contract", (other[1][0], one[1][1]))
        self.assertEqual(breaches(told, thing, wide), (("body", (None,), ("ruined",)),))
        self.assertEqual(breaches(told, thing, merged(told, thing, one, other)), ())

    def test_wrong_values(self):
        for call in (agreed, merged):
            for bad in (None, (), ("contract", ()), list(LEAST)):
                with self.assertRaises(BadContract):
                    call(PLAIN, THING, bad, LEAST)
                with self.assertRaises(BadContract):
                    call(PLAIN, THING, LEAST, bad)
            with self.assertRaises(Tight):
                call(document(("run", BOTH)), THING, None, None)


if __name__ == "__main__":
    unittest.main()
