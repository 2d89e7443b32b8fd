"""Point 14: the most that outsiders can have while no call is open."""

import unittest

from nestcall.house import read_house
from nestcall.most import most
from nestcall.search import reachable
from nestcall.state import worth
from tests.test_rows import OPEN_BANK, SAFE_BANK


class MostTest(unittest.TestCase):
    def check(self, text, *expected):
        """The most for several prices, one after the other; nothing is modified."""
        house = read_house(text)
        for prices, value in expected:
            given = list(prices)
            self.assertEqual(most(house, given), value, (text, prices))
            self.assertIs(type(most(house, given)), int)
            self.assertEqual(given, list(prices))
        self.assertEqual(house, read_house(text))

    def test_banks(self):
        self.check(OPEN_BANK, ([1], 3), ([5], 15), ([0], 0), ([1], 3), ([10 ** 12], 3 * 10 ** 12))
        self.check(SAFE_BANK, ([1], 1), ([5], 5), ([0], 0))

    def test_without_contracts(self):
        self.check("", ([], 0))
        self.check("asset gold 3 asset iron 4", ([2, 5], 26), ([0, 0], 0), ([0, 1], 4), ([1, 0], 3))

    def test_without_procedures(self):
        self.check("asset gold 3 contract bank hold gold 50 end", ([2], 6))

    def test_hidden_procedures(self):
        self.check("asset gold 3 contract bank hold gold 50 proc p 1 hidden give gold 50 end end", ([2], 6))

    def test_without_assets(self):
        self.check("contract bank var x 9 0 proc p 9 shown set x given end end", ([], 0))

    def test_several_assets(self):
        """Outsiders have 1 and 5, 2 and 3, or 3 and 1."""
        text = (
            "asset gold 1 asset iron 5 contract bank hold gold 3"
            " proc swap 1 shown get iron 2 give gold 1 end end")
        expected = [([1, 1], 6), ([1, 0], 3), ([0, 1], 5), ([3, 1], 10), ([2, 1], 7), ([0, 0], 0), ([5, 2], 17)]
        self.check(text, *expected)
        self.check(text, *expected[::-1])

    def test_only_while_no_call_is_open(self):
        """Outsiders have 9 while they are asked, and 1 behind it; then the bank has too little."""
        text = (
            "asset gold 0 contract bank var z 1 0 hold gold 9"
            " proc p 1 shown give gold 9 ask z 1 get gold 8 end end")
        self.check(text, ([1], 1), ([4], 4))

    def test_not_in_the_last_state(self):
        """The number of calls decides: 0, 4, 3, 2, 1, 0."""
        text = (
            "asset gold 0 contract bank var x 9 0 hold gold 4 proc up 1 shown need = x 0 set x 1 give gold 4 end"
            " proc down 1 shown need x get gold 1 end end")
        self.check(text, ([1], 4), ([2], 8))

    def test_what_was_given_back_in_a_question(self):
        """The loan must be paid back before the call ends; meanwhile it buys something."""
        text = (
            "asset coin 0 asset ware 0 contract shop hold ware 2 proc buy 1 shown get coin 5 give ware 1 end"
            " proc sell 1 shown get ware 1 give coin 5 end end"
            " contract bank var z 1 0 hold coin 10 proc lend 1 shown give coin 10 ask z 1 get coin {} end end")
        self.check(text.format(10), ([1, 1], 0), ([0, 1], 0))
        self.check(text.format(5), ([1, 1], 5), ([0, 1], 1), ([1, 9], 9), ([9, 1], 45))
        self.check(text.format(0), ([1, 1], 10), ([0, 1], 2), ([1, 9], 18))

    def test_greatest_worth_of_the_reachable_states(self):
        for text in (OPEN_BANK, SAFE_BANK):
            states = reachable(read_house(text))
            self.check(text, ([7], max(worth(state, [7]) for state in states)))


if __name__ == "__main__":
    unittest.main()
