"""Points 13 and 14: the least closed rows, and what outsiders can bring about."""

import unittest

from nestcall.house import read_house
from nestcall.search import least_rows, reachable
from nestcall.state import first_state
from nestcall.walk import Walk
from tests.reference import calls_of
from tests.small import SmallMaker

# Outsiders may draw again before the credit is taken away.
OPEN_BANK = (
    "asset gold 0 contract bank var c 2 1 var z 1 0 hold gold 3"
    " proc draw 1 shown need c give gold 1 ask z 1 set c 0 end end"
)
# The same, but the credit is taken away first.
SAFE_BANK = (
    "asset gold 0 contract bank var c 2 1 var z 1 0 hold gold 3"
    " proc draw 1 shown need c set c 0 give gold 1 ask z 1 end end"
)


def bank(credit, held, out):
    return ((credit, 0),), ((held,),), (out,)


OPEN_ROWS = {
    bank(1, 3, 0): {bank(1, 3, 0), bank(0, 2, 1), bank(0, 1, 2), bank(0, 0, 3)},
    bank(1, 2, 1): {bank(1, 2, 1), bank(0, 1, 2), bank(0, 0, 3)},
    bank(1, 1, 2): {bank(1, 1, 2), bank(0, 0, 3)},
    bank(1, 0, 3): {bank(1, 0, 3)},
}


def values(*numbers):
    """The state of a house of one contract and no assets."""
    return (tuple(numbers),), ((),), ()


class RowChecks:
    """Checks of rows, for test cases."""

    def check_form(self, house, pairs):
        """The rows have the promised form."""
        self.assertIs(type(pairs), list)
        self.assertEqual(pairs[0][0], first_state(house))
        self.assertEqual(len(pairs), len({state for state, _ in pairs}))
        for pair in pairs:
            self.assertEqual((type(pair), type(pair[1]), len(pair)), (tuple, list, 2))
            state, row = pair
            self.assertIn(state, row)
            self.assertEqual(len(row), len(set(row)))

    def check_rows(self, text, rows):
        """The least closed rows are these, a dict from states to sets of states."""
        house = read_house(text)
        pairs = least_rows(house)
        self.check_form(house, pairs)
        self.assertEqual({state: set(row) for state, row in pairs}, rows, text)
        found = reachable(house)
        self.assertIs(type(found), list)
        self.assertEqual(found[0], first_state(house))
        self.assertEqual(len(found), len(set(found)))
        self.assertEqual(set(found), rows[first_state(house)])
        self.assertEqual(house, read_house(text))


class NothingHappensTest(RowChecks, unittest.TestCase):
    def check_alone(self, text):
        first = first_state(read_house(text))
        self.check_rows(text, {first: {first}})
        self.assertEqual(least_rows(read_house(text)), [(first, [first])])

    def test_without_contracts(self):
        self.check_alone("")
        self.check_alone("asset gold 3 asset iron 0")

    def test_without_procedures(self):
        self.check_alone("contract bank end")
        self.check_alone("asset gold 3 contract bank var x 9 4 hold gold 7 end contract fund end")

    def test_hidden_procedures(self):
        self.check_alone("contract bank var x 9 0 proc p 4 hidden set x given end proc q 1 hidden ask x 9 end end")

    def test_always_failing(self):
        self.check_alone("contract bank var x 9 0 proc p 4 shown set x given need 0 end end")
        self.check_alone("asset gold 3 contract bank hold gold 2 proc p 4 shown give gold + given 3 end end")

    def test_nothing_changes(self):
        self.check_alone("contract bank var x 9 4 proc p 64 shown set x 4 end proc q 1 shown end end")
        self.check_alone("contract bank var x 9 4 proc p 1 shown if = x 3 set x 1 end end end")


class WithoutQuestionsTest(RowChecks, unittest.TestCase):
    def test_counting(self):
        text = "contract bank var x 5 2 proc step 1 shown set x + x 1 end end"
        self.check_rows(text, {values(2): {values(k) for k in range(5)}})

    def test_in_order(self):
        text = "contract bank var x 9 2 proc step 1 shown need < x 5 set x + x 1 end end"
        self.assertEqual(set(reachable(read_house(text))), {values(2), values(3), values(4), values(5)})

    def test_numbers(self):
        text = "contract bank var x 9 0 proc put 4 shown need = x 0 set x + given 3 end end"
        self.check_rows(text, {values(0): {values(k) for k in (0, 3, 4, 5, 6)}})

    def test_a_procedure_that_becomes_possible(self):
        text = (
            "contract bank var x 9 0 proc last 1 shown need = x 2 set x 7 end"
            " proc second 1 shown need = x 1 set x 2 end proc first 1 shown need = x 0 set x 1 end end")
        self.check_rows(text, {values(0): {values(k) for k in (0, 1, 2, 7)}})

    def test_payments(self):
        text = (
            "asset gold 1 contract bank hold gold 2 proc pay 3 shown give gold given end"
            " proc put 1 shown get gold 1 end end")
        states = {(((),), ((held,),), (3 - held,)) for held in range(4)}
        self.check_rows(text, {(((),), ((2,),), (1,)): states})

    def test_hidden_and_called(self):
        text = (
            "contract bank var x 9 0 proc low 3 hidden set x + given 4 end"
            " proc p 2 shown need < x 4 call bank low given end end")
        self.check_rows(text, {values(0): {values(0), values(4), values(5)}})


class QuestionsTest(RowChecks, unittest.TestCase):
    def test_answers_to_different_states(self):
        states = {values(k) for k in range(3)}
        text = "contract bank var x 3 0 proc p 1 shown ask x 3 end end"
        self.check_rows(text, {state: states for state in states})

    def test_fewer_answers_than_values(self):
        states = {values(0), values(1)}
        self.check_rows("contract bank var x 3 0 proc p 1 shown ask x 2 end end", {state: states for state in states})

    def test_more_answers_than_values(self):
        states = {values(0), values(1)}
        self.check_rows("contract bank var x 2 0 proc p 1 shown ask x 9 end end", {state: states for state in states})

    def test_a_state_that_is_only_asked_in(self):
        text = "contract bank var x 4 0 var y 2 0 proc p 1 shown set x 3 ask y 2 set x y end end"
        ends = {values(0, 0), values(1, 1)}
        self.check_rows(text, {
            values(0, 0): ends,
            values(3, 0): ends | {values(3, 0)},
            values(3, 1): ends | {values(3, 1)},
        })

    def test_calls_while_a_question_is_open(self):
        self.check_rows(OPEN_BANK, OPEN_ROWS)

    def test_no_use_of_calls_while_a_question_is_open(self):
        self.check_rows(SAFE_BANK, {
            bank(1, 3, 0): {bank(1, 3, 0), bank(0, 2, 1)},
            bank(0, 2, 1): {bank(0, 2, 1)},
        })

    def test_called_procedure_asks(self):
        text = (
            "asset gold 0 contract bank var c 2 1 var z 1 0 hold gold 3"
            " proc ring 1 hidden ask z 1 end"
            " proc draw 1 shown need c give gold 1 call bank ring 0 set c 0 end end")
        self.check_rows(text, OPEN_ROWS)

    def test_called_procedure_asks_and_both_go_on(self):
        text = (
            "contract fund var a 3 0 proc low 3 hidden ask a 2 set a + a given end end"
            " contract bank var x 5 0 proc p 1 shown need = x 0 set x 1 call fund low 1 set x 2 end end")

        def both(a, x):
            return ((a,), (x,)), ((), ()), ()

        self.check_rows(text, {
            both(0, 0): {both(0, 0), both(1, 2), both(2, 2)},
            both(0, 1): {both(0, 1)},
        })

    def test_never_left_without_a_failure(self):
        text = "contract bank var x 9 0 var y 2 0 proc p 1 shown set x 1 ask y 2 need 0 end end"
        self.check_rows(text, {values(0, 0): {values(0, 0)}, values(1, 0): {values(1, 0)}})

    def test_a_row_that_only_a_failing_call_needs(self):
        """Where the failing call asks, the counting procedure may go further than at the beginning."""
        text = (
            "contract bank var x 9 0 var y 1 0 proc p 1 shown need = x 0 set x 5 ask y 1 need 0 end"
            " proc step 1 shown need < 4 x need < x 7 set x + x 1 end end")
        self.check_rows(text, {
            values(0, 0): {values(0, 0)},
            values(5, 0): {values(5, 0), values(6, 0), values(7, 0)},
        })

    def test_some_answers_fail(self):
        text = "contract bank var x 9 0 proc p 1 shown need = x 0 set x 8 ask x 5 need < 2 x end end"
        self.check_rows(text, {
            values(0): {values(0), values(3), values(4)},
            values(8): {values(8)},
        })

    def test_what_is_left_behind_decides(self):
        """Only with a step taken while the question is open does the call come to its end."""
        text = (
            "contract bank var x 9 0 var y 1 0 proc p 1 shown need = x 0 set x 3 ask y 1 need = x 4 set x 8 end"
            " proc step 1 shown need = x 3 set x 4 end end")
        self.check_rows(text, {
            values(0, 0): {values(0, 0), values(8, 0)},
            values(3, 0): {values(3, 0), values(4, 0)},
        })

    def test_two_questions(self):
        text = (
            "contract bank var x 20 0 var y 1 0"
            " proc p 1 shown need = x 0 set x 1 ask y 1 set x + x 10 ask y 1 set x + x 5 end"
            " proc step 1 shown need + = x 1 = x 11 set x + x 1 end end")
        self.check_rows(text, {
            values(0, 0): {values(k, 0) for k in (0, 16, 17)},
            values(1, 0): {values(1, 0), values(2, 0)},
            values(11, 0): {values(11, 0), values(12, 0)},
            values(12, 0): {values(12, 0)},
        })


class NewListsTest(RowChecks, unittest.TestCase):
    def test_changing_what_is_returned(self):
        house = read_house(OPEN_BANK)
        kept = least_rows(house)
        again = least_rows(house)
        self.assertEqual(kept, again)
        for _, row in again:
            row.clear()
        again.clear()
        reachable(house).clear()
        self.assertEqual(least_rows(house), kept)
        self.assertEqual(reachable(house), kept[0][1])
        self.check_rows(OPEN_BANK, OPEN_ROWS)

    def test_rows_share_no_list(self):
        pairs = least_rows(read_house("contract bank var x 3 0 proc p 1 shown ask x 3 end end"))
        self.assertEqual(len(pairs), 3)
        pairs[0][1].append("more")
        self.assertEqual([len(row) for _, row in pairs], [4, 3, 3])


class PlaysTest(unittest.TestCase):
    """What a Walk shows after all short lists of acts."""

    def states_after(self, house, most):
        """The states with no question open after at most so many acts, none of which fails."""
        found, todo = {}, [()]
        while todo:
            acts = todo.pop()
            doing = Walk(house)
            for act in acts:
                doing.act(act)
            if doing.failed:
                continue
            if doing.depth() == 0:
                found[doing.state] = True
            if len(acts) < most:
                more = calls_of(house) + [("answer", number) for number in range(doing.asked())]
                todo.extend([acts + (act,) for act in more])
        return set(found)

    def test_banks(self):
        for text, most in ((OPEN_BANK, 6), (SAFE_BANK, 6)):
            house = read_house(text)
            self.assertEqual(self.states_after(house, most), set(reachable(house)))
        self.assertEqual(len(reachable(read_house(OPEN_BANK))), 4)

    def test_small_houses(self):
        tried = 0
        for seed in range(400):
            house = read_house(SmallMaker(seed).house())
            if len(calls_of(house)) > 3:
                continue
            found = self.states_after(house, 4)
            every = set(reachable(house))
            self.assertLessEqual(found, every, seed)
            tried += len(found) > 1 and found == every
        self.assertGreater(tried, 20)


if __name__ == "__main__":
    unittest.main()
