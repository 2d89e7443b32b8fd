"""Point 17: whether given rows are closed, and what they bound."""

import unittest
from copy import deepcopy
from itertools import permutations

from nestcall.house import read_house
from nestcall.judge import bound, is_closed
from nestcall.search import least_rows
from nestcall.state import first_state
from tests.test_rows import OPEN_BANK, OPEN_ROWS, SAFE_BANK, bank, values

ASKING = "contract bank var x 40 0 var z 1 0 proc p 1 shown ask z {} end end"
BEGINNING = bank(1, 3, 0)


def listed(rows):
    """Rows as the judge is given them."""
    return [(state, sorted(row)) for state, row in rows.items()]


def with_row(rows, state, row):
    """Rows, with another row for a state; without one if it is None."""
    changed = dict(rows)
    changed.pop(state, None)
    if row is not None:
        changed[state] = row
    return changed


class JudgeChecks:
    """Checks of rows, for test cases."""

    def check_judged(self, text, pairs, closed, prices=()):
        """The rows are closed or not; the judge changes nothing."""
        house = read_house(text)
        given = deepcopy(pairs)
        self.assertIs(is_closed(house, given), closed, pairs)
        if not closed:
            self.assertIsNone(bound(house, given, [1] * len(house.assets)), pairs)
        for price, most in prices:
            self.assertEqual(bound(house, given, price), most, pairs)
        self.assertEqual(given, pairs)
        self.assertEqual(house, read_house(text))


class LeastRowsTest(JudgeChecks, unittest.TestCase):
    def test_least_rows(self):
        texts = [
            "", "asset gold 3", "contract bank end", OPEN_BANK, SAFE_BANK,
            "contract bank var x 5 2 proc step 1 shown set x + x 1 end end",
            "contract bank var x 3 0 proc p 1 shown ask x 3 end end",
            "contract bank var x 9 0 var y 2 0 proc p 1 shown set x 1 ask y 2 need 0 end end",
        ]
        for text in texts:
            self.check_judged(text, least_rows(read_house(text)), True)

    def test_any_order(self):
        for pairs in permutations(listed(OPEN_ROWS)):
            self.check_judged(OPEN_BANK, list(pairs), True)
            self.check_judged(OPEN_BANK, [(state, row[::-1]) for state, row in pairs], True)

    def test_rows_of_another_house(self):
        self.check_judged(SAFE_BANK, listed(OPEN_ROWS), False)
        self.check_judged(OPEN_BANK, least_rows(read_house(SAFE_BANK)), False)


class TooSmallTest(JudgeChecks, unittest.TestCase):
    def test_no_rows(self):
        for text in ("", "contract bank end", OPEN_BANK):
            self.check_judged(text, [], False)

    def test_a_state_left_out(self):
        for state, row in OPEN_ROWS.items():
            for left_out in row:
                self.check_judged(OPEN_BANK, listed(with_row(OPEN_ROWS, state, row - {left_out})), False)

    def test_a_row_left_out(self):
        for state in OPEN_ROWS:
            self.check_judged(OPEN_BANK, listed(with_row(OPEN_ROWS, state, None)), False)

    def test_an_empty_row(self):
        for state in OPEN_ROWS:
            self.check_judged(OPEN_BANK, listed(with_row(OPEN_ROWS, state, set())), False)

    def test_the_beginning_without_a_row(self):
        text = "contract bank var x 3 0 end"
        self.check_judged(text, [(values(1), [values(1)])], False)
        self.check_judged(text, [(values(1), [values(1), values(0)])], False)
        self.check_judged(text, [(values(1), [values(1)]), (values(0), [values(0)])], True)

    def test_a_state_that_is_not_in_its_row(self):
        """No call leads to it, or nothing at all can be called."""
        text = "contract bank var x 3 0 end"
        self.check_judged(text, [(values(0), [])], False)
        self.check_judged(text, [(values(0), [values(1)])], False)
        self.check_judged(text, [(values(0), [values(0)]), (values(1), [values(0)])], False)
        self.check_judged(text, [(values(0), [values(0)]), (values(1), [values(0), values(1)])], True)

    def test_a_row_missing_that_only_a_failing_call_needs(self):
        text = "contract bank var x 9 0 var y 2 0 proc p 1 shown set x 1 ask y 2 need 0 end end"
        first, asking = values(0, 0), values(1, 0)
        self.check_judged(text, [(first, [first])], False)
        self.check_judged(text, [(first, [first]), (asking, [asking])], True)

    def test_a_row_that_no_call_of_the_beginning_needs(self):
        """All rows count, whether or not calls from the beginning lead there."""
        text = "contract bank var x 9 0 proc step 1 shown need < 2 x set x + x 1 end end"
        first = values(0)
        self.check_judged(text, [(first, [first]), (values(5), [values(5)])], False)
        rest = [values(k) for k in (5, 6, 7, 8, 0)]
        self.check_judged(text, [(first, [first]), (values(5), rest)], True)
        self.check_judged(text, [(first, [first]), (values(5), rest[:-1])], False)


class LargerTest(JudgeChecks, unittest.TestCase):
    def test_a_state_put_in(self):
        """Calls that begin there may lead out of the row, or ask in states without rows."""
        row = OPEN_ROWS[BEGINNING]
        for more, closed in ((bank(1, 1, 2), True), (bank(1, 2, 2), False), (bank(0, 2, 2), True)):
            self.check_judged(OPEN_BANK, listed(with_row(OPEN_ROWS, BEGINNING, row | {more})), closed)
        row = OPEN_ROWS[bank(1, 1, 2)]
        self.check_judged(OPEN_BANK, listed(with_row(OPEN_ROWS, bank(1, 1, 2), row | {bank(0, 2, 1)})), False)
        text = "contract bank var x 5 0 proc step 1 shown need < 2 x set x + x 1 end end"
        for more, closed in ((1, True), (2, True), (3, False), (4, True)):
            self.check_judged(text, [(values(0), [values(0), values(more)])], closed)
        self.check_judged(text, [(values(0), [values(k) for k in (0, 3, 4)])], True)

    def test_larger_rows(self):
        """States in which draw fails may stand in any row."""
        more = {bank(0, 7, 7), bank(0, 3, 0)}
        rows = {state: row | more for state, row in OPEN_ROWS.items()}
        self.check_judged(OPEN_BANK, listed(rows), True, [([1], 7), ([2], 14)])
        rows = with_row(OPEN_ROWS, BEGINNING, OPEN_ROWS[BEGINNING] | more)
        self.check_judged(OPEN_BANK, listed(rows), True, [([1], 7), ([2], 14)])
        for state in (bank(1, 0, 3), bank(1, 1, 2), bank(1, 2, 1)):
            rows = with_row(OPEN_ROWS, state, OPEN_ROWS[state] | more)
            self.check_judged(OPEN_BANK, listed(rows), False)

    def test_more_rows(self):
        rows = with_row(OPEN_ROWS, bank(0, 1, 1), {bank(0, 1, 1), bank(0, 3, 3)})
        self.check_judged(OPEN_BANK, listed(rows), True)
        rows = with_row(OPEN_ROWS, bank(1, 7, 7), {bank(1, 7, 7)})
        self.check_judged(OPEN_BANK, listed(rows), False)

    def test_all_states(self):
        states = [values(k) for k in range(4)]
        text = "contract bank var x 4 0 proc p 4 shown set x given ask x 4 end end"
        self.check_judged(text, [(state, states) for state in states], True)
        self.check_judged(text, [(state, states) for state in states[:-1]], False)
        self.check_judged(text, [(state, states[:-1]) for state in states], False)

    def test_many_states(self):
        """Rows may have more states than the least closed rows are allowed."""
        text = "contract bank var x 999 0 proc step 1 shown set x + x 1 end end"
        states = [values(k) for k in range(999)]
        self.check_judged(text, [(values(0), states)], True)
        self.check_judged(text, [(values(0), states[:-1])], False)


class TwiceTest(JudgeChecks, unittest.TestCase):
    def test_the_first_row_counts(self):
        pairs = listed(OPEN_ROWS)
        for state in OPEN_ROWS:
            for row in ([], [state], sorted(OPEN_ROWS[state]) + [bank(1, 9, 9)]):
                self.check_judged(OPEN_BANK, pairs + [(state, row)], True)
                if set(row) != OPEN_ROWS[state]:
                    self.check_judged(OPEN_BANK, [(state, row)] + pairs, False)

    def test_the_bound_is_that_of_the_first_row(self):
        text = "asset gold 2 contract bank hold gold 5 end"

        def held(out):
            return ((),), ((5,),), (out,)

        pairs = [(held(2), [held(2), held(4)]), (held(2), [held(2), held(9)])]
        self.check_judged(text, pairs, True, [([3], 12)])
        self.check_judged(text, pairs[::-1], True, [([3], 27)])

    def test_a_state_twice_in_its_row(self):
        pairs = [(state, row + row) for state, row in listed(OPEN_ROWS)]
        self.check_judged(OPEN_BANK, pairs, True)

    def test_a_state_twice_counts_once(self):
        """The call has 31 * 64 ways; with every state counted twice it would have more than 2000."""
        row = [values(k, 0) for k in range(31)]
        pairs = [(state, row + row) for state in row]
        self.check_judged(ASKING.format(64), pairs, True)


class WaysTest(JudgeChecks, unittest.TestCase):
    def test_too_many_ways(self):
        """The least rows have a single state; the given ones have as many states as one likes."""
        for answers, states, closed in ((64, 1, True), (64, 31, True), (64, 32, False), (50, 40, True), (51, 40, False)):
            row = [values(k, 0) for k in range(states)]
            self.check_judged(ASKING.format(answers), [(state, row) for state in row], closed)

    def test_ways_that_fail(self):
        text = (
            "contract bank var lock 2 0 var y 64 0 var x 1 0"
            " proc p 1 shown need = lock 0 set lock 1 ask y {} need y ask x 40 set y 0 set lock 0 end end")
        for answers, closed in ((50, True), (51, False)):
            first = values(0, 0, 0)
            asking = [values(1, y, 0) for y in range(answers)]
            pairs = [(first, [first])] + [(state, [state]) for state in asking]
            self.check_judged(text.format(answers), pairs, closed)

    def test_exactly_so_many(self):
        text = (
            "contract bank var lock 2 0 var x 1 0"
            " proc p 1 shown need = lock 0 set lock 1 ask x {} ask x {} ask x {} set lock 0 end end")
        pairs = [(values(k, 0), [values(k, 0)]) for k in (0, 1)]
        for answers, closed in (((20, 10, 10), True), ((50, 40, 1), True), ((23, 29, 3), False), ((64, 64, 64), False)):
            self.check_judged(text.format(*answers), pairs, closed)

    def test_each_call_counts_alone(self):
        text = (
            "contract bank var lock 2 0 var x 1 0"
            " proc p 4 shown need = lock 0 set lock 1 ask x 50 ask x 40 set lock 0 end"
            " proc q 1 shown need = lock 0 set lock 1 ask x 40 ask x 50 set lock 0 end end")
        self.check_judged(text, [(values(k, 0), [values(k, 0)]) for k in (0, 1)], True)


class BoundTest(JudgeChecks, unittest.TestCase):
    def test_prices(self):
        self.check_judged(OPEN_BANK, listed(OPEN_ROWS), True, [([1], 3), ([0], 0), ([7], 21), ([10 ** 9], 3 * 10 ** 9)])
        pairs = least_rows(read_house(SAFE_BANK))
        self.check_judged(SAFE_BANK, pairs, True, [([1], 1), ([5], 5)])

    def test_several_assets(self):
        text = (
            "asset gold 1 asset iron 5 contract bank hold gold 3"
            " proc swap 1 shown get iron 2 give gold 1 end end")
        pairs = least_rows(read_house(text))
        self.assertEqual(len(pairs[0][1]), 3)
        prices = [([1, 1], 6), ([1, 0], 3), ([0, 1], 5), ([3, 1], 10), ([2, 1], 7), ([0, 0], 0)]
        self.check_judged(text, pairs, True, prices)

    def test_only_the_row_of_the_beginning(self):
        """Behind a question outsiders have more than they can have at the end."""
        text = (
            "asset gold 0 contract bank var z 1 0 hold gold 9"
            " proc p 1 shown give gold 9 ask z 1 get gold 8 end end")
        pairs = least_rows(read_house(text))
        self.assertEqual(max(state[2][0] for state, _ in pairs), 9)
        self.assertEqual(bound(read_house(text), pairs, [1]), max(state[2][0] for state in pairs[0][1]))
        self.assertEqual(first_state(read_house(text)), pairs[0][0])

    def test_no_assets(self):
        self.check_judged("", [(((), (), ()), [((), (), ())])], True, [([], 0)])

    def test_prices_stay(self):
        prices = [4]
        bound(read_house(OPEN_BANK), listed(OPEN_ROWS), prices)
        self.assertEqual(prices, [4])


if __name__ == "__main__":
    unittest.main()
