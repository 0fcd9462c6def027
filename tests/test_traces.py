"""Points [134] to [136]: traces, which part is to blame, parts exchanged."""

import unittest

from anymaker.contracts import breaches, is_kept
from anymaker.ends import least_contract, weakest_contract
from anymaker.errors import BadContract, BadPart, BadPiece, BadProgram, BadTrace, NotAhead, Tight
from anymaker.exchanges import exchanged
from anymaker.programs import is_program
from anymaker.traces import blame, is_trace
from tests.linked import PLAIN, cases, traces
from tests.nearly import STRANGE, nearly
from tests.samples import ASK, document, name, number, program, put, show, then
from tests.test_contracts import LEAST, WEAKEST, contracts_near, parts_of, tables_of
from tests.test_outcomes import HALF, THING

ONE = number(1)
ZERO = number(0)
BEGIN = ("begins", "body", (None,))
TRACE = (BEGIN, ("begins", "half", (1,)), ("ends", 1, (1,)), ("ends", 1, (1,)))


def model_blame(thing, contract, trace):
    """By the words of [134]."""
    tables = tables_of(thing, contract)
    stack = []
    for at, item in enumerate(trace):
        if item[0] == "begins":
            if stack and item[2] not in tables[item[1]]:
                return (at, stack[-1] + (("ahead",) + item[1:],))
            stack.append(item[1:])
        elif item[0] == "ruined":
            return (at, stack[-1] + (item,))
        else:
            part, memory = stack.pop()
            if item[1:] not in tables[part][memory]:
                return (at, (part, memory, ("end",) + item[1:]))
    return None


class TraceTest(unittest.TestCase):
    def test_example(self):
        """[136] as it stands, and what goes on behind it."""
        for many in range(len(TRACE) + 1):
            self.assertIs(is_trace(document=PLAIN, program=THING, thing=TRACE[:many]), True)
        nothing = ("contract", ((), LEAST[1][1]))
        self.assertEqual(blame(document=PLAIN, program=THING, contract=nothing, trace=TRACE[:2]),
                         (1, ("body", (None,), ("ahead", "half", (1,)))))
        self.assertIsNone(blame(PLAIN, THING, nothing, TRACE[:1]))
        self.assertIsNone(blame(PLAIN, THING, nothing, ()))
        for contract in (WEAKEST, LEAST):
            self.assertIsNone(blame(PLAIN, THING, contract, TRACE))

    def test_traces_that_break_off_begin_elsewhere_or_are_of_no_run(self):
        for thing in (TRACE[1:], (("begins", "half", (None,)),), (("begins", "body", (1,)),), TRACE + TRACE[-1:], TRACE + (BEGIN,),
                      TRACE[:2] + (("ends", 0, (1,)),), TRACE[:2] + (("ends", 1, (0,)),), TRACE[:2] + (("ruined",),),
                      TRACE[:1] + (("begins", "half", (None,)),), (BEGIN, BEGIN), TRACE[:3] + (("ends", 0, (1,)),),
                      (("ruined",),), (("ends", 1, (1,)),), TRACE[:1] + (("ends", 1, (1,)),), TRACE + (("ruined",),), list(TRACE)):
            self.assertIs(is_trace(PLAIN, THING, thing), False, thing)

    def test_ruined_traces(self):
        thing = program(then(("call", "half"), show(ONE)), ("x",), (("half", HALF),))
        ruined = (BEGIN, ("begins", "half", (None,)), ("ruined",))
        self.assertTrue(is_trace(PLAIN, thing, ruined))
        self.assertTrue(is_trace(PLAIN, thing, ruined[:2] + (("ends", 1, (None,)),)))
        self.assertFalse(is_trace(PLAIN, thing, ruined + (("ruined",),)))
        self.assertFalse(is_trace(PLAIN, thing, ruined[:1] + ruined[2:]))
        contract = ("contract", ((((None,), ((1, (None,)),)),), (((None,), ((1, (None,)),)),)))
        self.assertEqual(blame(PLAIN, thing, contract, ruined), (2, ("half", (None,), ("ruined",))))

    def test_unlike_makers_of_two_calls(self):
        """Each call of a part may be answered by another maker."""
        thing = program(("plus", ("call", "p"), ("call", "p"), "left"), ("x",), (("p", name("x")),))
        part = [("begins", "p", (None,))]
        for one in (0, 1):
            for other in (0, 1):
                trace = (BEGIN, *part, ("ends", one, (None,)), *part, ("ends", other, (None,)), ("ends", (one + other) % 2, (None,)))
                self.assertTrue(is_trace(PLAIN, thing, trace))
                self.assertFalse(is_trace(PLAIN, thing, trace[:-1] + (("ends", (one + other + 1) % 2, (None,)),)))

    def test_makers_last_till_a_call_ends(self):
        body = then(put("y", name("x")), ("call", "p"), ("same", name("x"), name("y"), "left"))
        thing = program(body, ("x", "y"), (("p", ZERO),))
        begins = (("begins", "body", (None, None)),)
        for fill in (0, 1):
            trace = begins + (("begins", "p", (None, fill)), ("ends", 0, (None, fill)), ("ends", 1, (None, fill)))
            self.assertTrue(is_trace(PLAIN, thing, trace))
            wrong = trace[:-1] + (("ends", 0, (None, fill)),)
            self.assertFalse(is_trace(PLAIN, thing, wrong))
            self.assertTrue(is_trace(document(fill=("place", (0, 1))), thing, wrong))

    def test_all_traces(self):
        found = 0
        for told, thing in cases(251, 45):
            every = traces(told, thing, 6)
            for trace in every:
                self.assertTrue(is_trace(told, thing, trace), (told, thing, trace))
            found += len(every)
            items = sorted({item for trace in every for item in trace}, key=repr)
            for trace in sorted(every, key=repr)[:25]:
                for item in items:
                    self.assertIs(is_trace(told, thing, trace[:5] + (item,)), trace[:5] + (item,) in every)
        self.assertGreater(found, 200)

    def test_nearly_traces(self):
        checked = {True: 0, False: 0}
        for told, thing in cases(252, 15):
            every = traces(told, thing, 7)
            for trace in sorted(every, key=lambda one: (-len(one), repr(one)))[:3]:
                for other in nearly(trace):
                    fine = type(other) is tuple and self.is_among(every, other)
                    self.assertIs(is_trace(told, thing, other), fine, (told, thing, other))
                    checked[fine] += 1
        self.assertGreater(min(checked.values()), 30)
        for other in STRANGE:
            self.assertIs(is_trace(PLAIN, THING, other), other == () and isinstance(other, tuple))

    def is_among(self, every, thing):
        from tests.nearly import same_with_kinds
        return any(same_with_kinds(trace, thing) for trace in every)

    def test_blame_by_the_words(self):
        """HEART of [134]: the breach that is told is one of breaches."""
        blamed = 0
        for told, thing in cases(253, 35):
            every = sorted(traces(told, thing, 6), key=repr)
            for contract in contracts_near(thing, weakest_contract(told, thing))[:8]:
                if (None,) not in tables_of(thing, contract)["body"]:
                    with self.assertRaises(NotAhead):
                        blame(told, thing, contract, ())
                    continue
                faults = breaches(told, thing, contract)
                for trace in every[:60]:
                    found = blame(told, thing, contract, trace)
                    self.assertEqual(found, model_blame(thing, contract, trace))
                    if found is not None:
                        self.assertIn(found[1], faults)
                        blamed += 1
                    self.assertTrue(found is None or not is_kept(told, thing, contract))
        self.assertGreater(blamed, 60)

    def test_wrong_values_in_order(self):
        empty = ("contract", ((), ()))
        with self.assertRaises(Tight):
            blame(document(fill=("run", (0, 1))), None, None, None)
        with self.assertRaises(BadProgram):
            blame(PLAIN, None, None, None)
        with self.assertRaises(BadContract):
            blame(PLAIN, THING, None, None)
        for bad in (None, list(TRACE), TRACE[1:], 1, "", {}):
            with self.assertRaises(BadTrace):
                blame(PLAIN, THING, empty, bad)
        with self.assertRaises(NotAhead):
            blame(PLAIN, THING, empty, TRACE)


class ExchangeTest(unittest.TestCase):
    def test_ordinary(self):
        self.assertEqual(exchanged(program=THING, part="half", piece=ASK), program(THING[3], ("x",), (("half", ASK),)))
        self.assertEqual(exchanged(THING, "body", ("call", "half")), program(("call", "half"), ("x",), THING[2]))
        three = program(ONE, ("x",), (("a", ONE), ("b", ("call", "a")), ("c", ZERO)))
        self.assertEqual(exchanged(three, "b", show(("call", "a")))[2][1], ("b", show(("call", "a"))))

    def test_pieces_that_may_not_stand_there(self):
        three = program(ONE, ("x",), (("a", ONE), ("b", ("call", "a")), ("c", ZERO)))
        for piece in (("call", "b"), ("call", "c"), show(("call", "body")), name("y"), put("y", ONE), ("hole",), ["number", 1],
                      ("number", 8)) + tuple(one for one in STRANGE):
            with self.assertRaises(BadPiece):
                exchanged(three, "b", piece)
        self.assertTrue(is_program(exchanged(three, "c", ("call", "b"))))
        for part in STRANGE + ("z", "program"):
            with self.assertRaises(BadPart):
                exchanged(three, part, None)
        with self.assertRaises(BadProgram):
            exchanged(None, None, None)

    def test_breaches_of_all_other_parts_stay(self):
        """FACTS of [135]."""
        kept = 0
        rows = cases(254, 24)
        for (told, thing), (_, other) in zip(rows, rows[1:]):
            contracts = contracts_near(thing, weakest_contract(told, thing))[:6]
            for part, piece in other[2] + (("body", other[3]),):
                if part not in parts_of(thing):
                    continue
                try:
                    new = exchanged(thing, part, piece)
                except BadPiece:
                    continue
                for contract in contracts:
                    mine, others = [breaches(told, one, contract) for one in (thing, new)]
                    self.assertEqual([one for one in mine if one[0] != part], [one for one in others if one[0] != part])
                    if is_kept(told, thing, contract) and not [one for one in others if one[0] == part]:
                        self.assertTrue(is_kept(told, new, contract))
                        kept += 1
        self.assertGreater(kept, 5)

    def test_a_kept_contract_keeps_from_ruin(self):
        better = exchanged(THING, "half", ("if", name("x"), HALF, ONE))
        self.assertEqual(weakest_contract(PLAIN, better)[1][0][1], ((0,), ((1, (0,)),)))
        self.assertTrue(is_kept(PLAIN, better, LEAST))
        self.assertEqual(least_contract(PLAIN, better), LEAST)


if __name__ == "__main__":
    unittest.main()
