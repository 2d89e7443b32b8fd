"""Point 26: parts of a house."""

import unittest
from itertools import combinations
from random import Random

from nestcall.apart import part_house, parts
from nestcall.errors import TooLarge
from nestcall.guards import guarded
from nestcall.house import House, read_house
from nestcall.most import most
from nestcall.state import first_state, worth
from tests.helper import Maker
from tests.small import SmallMaker

ASSETS = "asset gold 1 asset iron 1 asset wood 1 "
# Where an asset stands in a procedure.
MENTIONS = (
    "give gold 1", "get gold 1", "need have gold", "need out gold", "set x have gold", "give iron out gold",
    "get iron have gold", "if have gold end", "if 1 give gold 0 end", "if 1 else get gold 0 end",
    "if 1 if 1 if 0 need out gold end end end", "if 1 else if 0 need 1 else set x have gold end end",
    "need + 1 + 1 + 1 + 1 + 1 + 1 + 1 + 1 have gold", "need + + + + + + + + out gold 1 1 1 1 1 1 1 1",
    "give iron * 0 have gold", "if 0 give gold 7 end", "ask x 3 give gold 1",
)


class PartsTest(unittest.TestCase):
    def check(self, text, expected):
        house = read_house(text)
        found = parts(house)
        self.assertEqual(found, expected, text)
        self.assertEqual({type(group) for group in found} - {list}, set())
        found.append([9])
        found[0].append(9)
        self.assertEqual(parts(house), expected)
        self.assertEqual(house, read_house(text))

    def check_joined(self, first, second, joined=True):
        """The inner parts of two contracts join these, or do not, in both orders."""
        for one, other in ((first, second), (second, first)):
            text = f"{ASSETS}contract a {one} end contract b {other} end"
            self.check(text, [[0, 1]] if joined else [[0], [1]])

    def test_none(self):
        self.assertEqual(parts(read_house("")), [])
        self.assertEqual(parts(read_house(ASSETS.strip())), [])

    def test_contracts_with_nothing(self):
        names = ["contract a end", "contract b var x 9 0 end", "contract c end", "contract d proc p 1 shown end end"]
        for count in range(1, 5):
            self.check(" ".join(names[:count]), [[at] for at in range(count)])

    def test_move(self):
        self.check(ASSETS + "contract a end contract b proc p 1 shown move a gold 0 end end", [[0, 1]])
        self.check(ASSETS + "contract a end contract b end contract c proc p 1 hidden move a gold 0 end end", [[0, 2], [1]])

    def test_call(self):
        text = "contract a proc p 1 hidden end end contract b end contract c proc q 1 shown call {} p 0 end proc p 1 hidden end"
        self.check("contract a proc p 1 shown end end contract b proc q 1 shown call a p 0 end end", [[0, 1]])
        self.check(text.format("a") + " end", [[0, 2], [1]])

    def test_call_within_a_contract(self):
        self.check(
            "contract a proc p 1 shown end proc q 1 shown call a p 0 end end"
            " contract b proc p 1 shown end proc q 1 shown call b p 0 end end", [[0], [1]])

    def test_moves_and_calls_within_an_if(self):
        for block in ("if 0 call a p 0 end", "if 1 else call a p 0 end", "if 0 if 0 if 1 else move a gold 0 end end end",
                      "if 1 if 1 need 1 else move a gold 0 end end"):
            self.check(f"{ASSETS}contract a proc p 1 shown end end contract b end contract c proc q 1 shown {block} end end",
                       [[0, 2], [1]])

    def test_called_by_two(self):
        """They have nothing directly to do with one another, but both with the third one."""
        text = "contract a proc p 1 shown end end contract b proc q 1 shown {} end end contract c proc q 1 shown {} end end"
        self.check(text.format("call a p 0", "call a p 0"), [[0, 1, 2]])
        self.check(text.format("call a p 0", "need 1"), [[0, 1], [2]])

    def test_holdings(self):
        self.check_joined("hold gold 1", "hold gold 2")
        self.check_joined("hold iron 5 hold gold 1", "hold wood 3 hold gold 65535")
        self.check_joined("hold gold 1", "hold iron 1", False)

    def test_holdings_of_nothing(self):
        self.check_joined("hold gold 0", "hold gold 0", False)
        self.check_joined("hold gold 0", "hold gold 7", False)
        self.check_joined("hold gold 0 hold iron 1", "hold gold 7 hold iron 1")

    def test_mentions(self):
        for block in MENTIONS:
            one = f"var x 70 0 proc p 1 shown {block} end"
            self.check_joined(one, "hold gold 3")
            self.check_joined(one, "hold gold 0", False)
            self.check_joined(one, "hold wood 3", False)
            self.check_joined(one, "var gold 3 0 proc gold 1 shown set gold gold end", False)
            self.check_joined(one.replace("shown", "hidden"), "proc p 1 hidden if 1 else give gold 0 end end")

    def test_the_asset_of_a_move(self):
        text = ASSETS + "contract a end contract b proc p 1 shown move a gold 0 end end contract c {} end"
        self.check(text.format("hold gold 1"), [[0, 1, 2]])
        self.check(text.format("hold iron 1"), [[0, 1], [2]])
        text = ASSETS + "contract a end contract b proc p 1 shown move a gold have iron end end contract c hold iron 1 end"
        self.check(text, [[0, 1, 2]])

    def test_the_number_of_a_call(self):
        text = ASSETS + "contract a proc p 9 shown end end contract b proc p 1 shown call a p {} end end contract c hold gold 1 end"
        self.check(text.format("have gold"), [[0, 1, 2]])
        self.check(text.format("have iron"), [[0, 1], [2]])

    def test_joined_by_a_third_one(self):
        text = ASSETS + "contract a hold gold 1 end contract b hold {} end contract c hold gold 1 hold iron 1 end"
        self.check(text.format("iron 1"), [[0, 1, 2]])
        self.check(text.format("wood 1"), [[0, 2], [1]])

    def test_joined_in_a_chain(self):
        holds = ["hold gold 1", "hold iron 1 hold wood 1", "hold gold 1 hold iron 1", "hold wood 1"]
        text = "".join(f" contract {name} {held} end" for name, held in zip("abcd", holds))
        self.check(ASSETS.strip() + text, [[0, 1, 2, 3]])

    def test_order(self):
        for held, expected in (
                ((1, 2, 1, 2), [[0, 2], [1, 3]]), ((1, 2, 2, 1), [[0, 3], [1, 2]]), ((1, 1, 2, 2), [[0, 1], [2, 3]]),
                ((0, 1, 2, 1), [[0], [1, 3], [2]]), ((0, 1, 0, 1), [[0], [1, 3], [2]]), ((3, 2, 1, 3), [[0, 3], [1], [2]]),
                ((1, 1, 1, 1), [[0, 1, 2, 3]]), ((0, 0, 0, 0), [[0], [1], [2], [3]]), ((2, 1, 2, 2), [[0, 2, 3], [1]])):
            holds = [("", "hold gold 1 ", "hold iron 1 ", "hold wood 1 ")[kind] for kind in held]
            text = "".join(f" contract {name} {own}end" for name, own in zip("dcba", holds))
            self.check(ASSETS.strip() + text, expected)

    def test_guarded_houses(self):
        """A floor mentions its asset."""
        house = read_house(ASSETS + "contract a proc p 1 shown end end contract b hold gold 1 end")
        self.assertEqual(parts(house), [[0], [1]])
        self.assertEqual(parts(guarded(house, [("floor", "a", "gold", 0)])), [[0, 1]])
        self.assertEqual(parts(guarded(house, [("floor", "a", "iron", 0)])), [[0], [1]])
        self.assertEqual(parts(guarded(house, [("lock", "a"), ("lock", "b"), ("hide", "a", "p")])), [[0], [1]])
        self.assertEqual(parts(guarded(house, [("floor", "b", "iron", 0), ("floor", "a", "iron", 0)])), [[0], [1]])


class PartHouseTest(unittest.TestCase):
    TEXT = (
        "asset gold 3 asset iron 4 contract a hold gold 5 proc p 1 shown give gold 1 end end"
        " contract b hold iron 6 proc p 1 shown give iron 2 end end contract c proc q 1 shown call a p 0 end end"
        " contract d var x 3 0 proc p 1 shown set x + x 1 end end")

    def test_houses(self):
        house = read_house(self.TEXT)
        self.assertEqual(parts(house), [[0, 2], [1], [3]])
        for row in parts(house):
            kept = list(row)
            found = part_house(house, row)
            self.assertIs(type(found), House)
            self.assertEqual(found.assets, house.assets)
            self.assertEqual(found.contracts, tuple(house.contracts[at] for at in row))
            self.assertIs(type(found.contracts), tuple)
            self.assertEqual(row, kept)
        self.assertEqual(house, read_house(self.TEXT))

    def test_all_rows(self):
        house = read_house(self.TEXT)
        for count in range(5):
            for row in combinations(range(4), count):
                found = part_house(house, list(row))
                self.assertEqual(found.contracts, tuple(house.contracts[at] for at in row))

    def test_one_part(self):
        text = "asset gold 3 contract a hold gold 1 end contract b hold gold 2 end"
        self.assertEqual(part_house(read_house(text), [0, 1]), read_house(text))


class SumTest(unittest.TestCase):
    def check_sum(self, house, prices):
        """The most is that of all parts, less what the beginning is worth."""
        groups = parts(house)
        first = worth(first_state(house), prices)
        every = [most(part_house(house, row), prices) for row in groups]
        expected = sum(every) - first * (len(groups) - 1) if groups else first
        self.assertEqual(most(house, prices), expected)
        return len(groups)

    def test_by_hand(self):
        house = read_house(PartHouseTest.TEXT)
        for prices, value in (([1, 1], 8 + 10), ([1, 0], 8), ([0, 1], 10), ([2, 3], 16 + 30), ([0, 0], 0)):
            self.assertEqual(most(house, prices), value)
            self.assertEqual(self.check_sum(house, prices), 3)
        self.assertEqual(most(part_house(house, [0, 2]), [1, 1]), 12)
        self.assertEqual(most(part_house(house, [1]), [1, 1]), 13)
        self.assertEqual(most(part_house(house, [3]), [1, 1]), 7)

    def test_without_contracts(self):
        self.assertEqual(self.check_sum(read_house("asset gold 3"), [4]), 0)

    def test_small_houses(self):
        several = 0
        for seed in range(600):
            house = read_house(SmallMaker(seed).house())
            random = Random(seed)
            try:
                several += self.check_sum(house, [random.randint(0, 2) for _ in house.assets]) > 1
            except TooLarge:
                continue
        self.assertGreater(several, 80)


class ComparedTest(unittest.TestCase):
    def words_of(self, value):
        """All pairs (word, asset) and names of contracts in some data, however deep."""
        if not isinstance(value, tuple):
            return set()
        found = set()
        if value and value[0] in ("have", "out", "give", "get") and len(value) in (2, 3) and isinstance(value[1], str):
            found.add(("asset", value[1]))
        if value and value[0] == "move" and len(value) == 4:
            found |= {("asset", value[2]), ("contract", value[1])}
        if value and value[0] == "call" and len(value) == 4:
            found.add(("contract", value[1]))
        return found.union(*[self.words_of(part) for part in value])

    def slow_parts(self, house):
        """The parts, found by joining any two groups that have to do with one another."""
        told = []
        for name, _, holdings, procedures in house.contracts:
            blocks = tuple(row[3] for row in procedures)
            own = {("asset", asset) for asset, amount in holdings if amount}
            told.append((own | self.words_of(blocks), name))
        groups = [[at] for at in range(len(told))]

        def related(one, other):
            (first, name), (second, other_name) = told[one], told[other]
            shared = {pair for pair in first & second if pair[0] == "asset"}
            return bool(shared) or ("contract", other_name) in first or ("contract", name) in second

        changed = True
        while changed:
            changed = False
            for one, other in combinations(groups, 2):
                if any(related(k, n) for k in one for n in other):
                    groups = [group for group in groups if group not in (one, other)] + [sorted(one + other)]
                    changed = True
                    break
        return sorted(groups)

    def test_made_houses(self):
        sizes = set()
        for seed in range(500):
            house = read_house((Maker if seed % 2 else SmallMaker)(seed).house())
            self.assertEqual(parts(house), self.slow_parts(house), seed)
            sizes.add(tuple(len(group) for group in parts(house)))
        self.assertGreater(len(sizes), 8)


if __name__ == "__main__":
    unittest.main()
