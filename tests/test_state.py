"""Point 8: states, the state at the beginning, and what a state is worth."""

import unittest

from nestcall.house import read_house
from nestcall.state import first_state, worth
from tests.acting import first_of
from tests.test_data import kinds

FOUR = (
    "asset gold 100 asset iron 0 asset wood 65535"
    " contract a end"
    " contract b var x 1 0 hold iron 7 end"
    " contract c var u 65535 65534 var v 3 2 var w 2 0 var x 9 8 var y 64 63 var z 5 1"
    " hold wood 3 hold gold 65535 hold iron 0 proc p 1 shown set u 0 end end"
    " contract d var x 4 3 var y 4 1 hold wood 65535 end"
)


class FirstStateTest(unittest.TestCase):
    def test_nothing(self):
        self.assertEqual(first_of(""), ((), (), ()))

    def test_assets_without_contracts(self):
        self.assertEqual(first_of("asset a 0"), ((), (), (0,)))
        self.assertEqual(first_of("asset a 5 asset b 65535"), ((), (), (5, 65535)))
        self.assertEqual(first_of("asset a 1 asset b 2 asset c 3"), ((), (), (1, 2, 3)))

    def test_contracts_without_anything(self):
        self.assertEqual(first_of("contract a end"), (((),), ((),), ()))
        self.assertEqual(first_of("contract a end contract b end contract c end"), (((), (), ()), ((), (), ()), ()))

    def test_four_contracts(self):
        self.assertEqual(first_of(FOUR), (
            ((), (0,), (65534, 2, 0, 8, 63, 1), (3, 1)),
            ((0, 0, 0), (0, 7, 0), (65535, 0, 3), (0, 0, 65535)),
            (100, 0, 65535),
        ))

    def test_numbers_of_contracts_assets_and_variables(self):
        for contracts in range(5):
            for assets in range(4):
                for variables in range(7):
                    words = [f"asset a{k} {k + 1}" for k in range(assets)]
                    for at in range(contracts):
                        words.append(f"contract c{at}")
                        words += [f"var v{k} 9 {(k + at) % 9}" for k in range(variables)]
                        words += [f"hold a{k} {10 * at + k}" for k in range(assets)]
                        words.append("end")
                    self.assertEqual(first_of(" ".join(words)), (
                        tuple(tuple((k + at) % 9 for k in range(variables)) for at in range(contracts)),
                        tuple(tuple(10 * at + k for k in range(assets)) for at in range(contracts)),
                        tuple(k + 1 for k in range(assets)),
                    ))

    def test_holdings_in_another_order(self):
        text = "asset a 1 asset b 2 asset c 3 contract x hold c 30 hold a 10 hold b 20 end contract y hold b 5 end"
        self.assertEqual(first_of(text)[1], ((10, 20, 30), (0, 5, 0)))

    def test_first_values_are_not_sizes(self):
        self.assertEqual(first_of("contract a var x 7 2 var y 2 1 end")[0], ((2, 1),))

    def test_kinds(self):
        expected = ["tuple"] * 3 + ["int"] + ["tuple"] * 2 + ["int", "tuple", "int"]
        self.assertEqual(kinds(first_of("asset a 1 contract c var x 2 1 end")), expected)

    def test_house_stays(self):
        house = read_house(FOUR)
        self.assertEqual(first_state(house), first_state(house))
        self.assertEqual(house, read_house(FOUR))


class WorthTest(unittest.TestCase):
    def test_only_outsiders_count(self):
        state = (((1, 2),), ((100, 200, 300),), (3, 4, 5))
        self.assertEqual(worth(state, [1, 0, 0]), 3)
        self.assertEqual(worth(state, [0, 1, 0]), 4)
        self.assertEqual(worth(state, [0, 0, 1]), 5)
        self.assertEqual(worth(state, [1, 10, 100]), 543)

    def test_prices_of_nothing(self):
        self.assertEqual(worth((((),), ((9, 9),), (7, 8)), [0, 0]), 0)
        self.assertEqual(worth((((),), ((9, 9),), (0, 0)), [5, 6]), 0)

    def test_large(self):
        self.assertEqual(worth(((), (), (10 ** 6, 65535)), [10 ** 9, 10 ** 12]), 10 ** 15 + 65535 * 10 ** 12)

    def test_no_assets(self):
        self.assertEqual(worth(((), (), ()), []), 0)
        self.assertEqual(worth((((3,),), ((),), ()), []), 0)

    def test_prices_stay(self):
        prices = [3, 4]
        self.assertEqual(worth(((), (), (1, 1)), prices), 7)
        self.assertEqual(prices, [3, 4])

    def test_first_state(self):
        self.assertEqual(worth(first_of(FOUR), [2, 5, 1]), 200 + 65535)


if __name__ == "__main__":
    unittest.main()
