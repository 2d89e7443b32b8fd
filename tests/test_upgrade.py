"""Point 25: a new house in the place of an old one."""

import unittest
from random import Random

from nestcall.errors import BadHouse, TooLarge
from nestcall.guards import guarded
from nestcall.house import House, read_house
from nestcall.most import most
from nestcall.search import reachable
from nestcall.state import first_state, worth
from nestcall.upgrade import carried, most_after
from nestcall.walk import Walk
from tests.small import SmallMaker
from tests.test_rows import OPEN_BANK, SAFE_BANK, bank

OLD = (
    "asset gold 5 asset iron 6 contract a var x 100 1 var y 9 2 hold gold 7 end"
    " contract b var x 10 3 hold iron 8 end"
)
# A state of OLD: every number differs.
STATE = (((95, 8), (4,)), ((11, 12), (13, 14)), (15, 16))


def what_of(asking, *arguments):
    """The attribute `what` of the error that a function raises, or None."""
    try:
        asking(*arguments)
    except (BadHouse, TooLarge) as error:
        return (type(error), error.what)
    return None


class CarriedTest(unittest.TestCase):
    def check(self, new_text, expected, old_text=OLD, state=STATE):
        old, new = read_house(old_text), read_house(new_text)
        found = carried(old, new, state)
        self.assertEqual(found, expected)
        kinds = {type(part) for part in found} | {type(row) for row in found[0] + found[1]}
        self.assertEqual(kinds, {tuple})
        self.assertEqual((old, new), (read_house(old_text), read_house(new_text)))

    def test_the_same_house(self):
        self.check(OLD, STATE)
        self.check(OLD, first_state(read_house(OLD)), OLD, first_state(read_house(OLD)))

    def test_variables_in_another_order(self):
        text = OLD.replace("var x 100 1 var y 9 2", "var y 9 2 var x 100 1")
        self.check(text, (((8, 95), (4,)), ((11, 12), (13, 14)), (15, 16)))

    def test_contracts_in_another_order(self):
        text = (
            "asset gold 5 asset iron 6 contract b var x 10 3 hold iron 8 end"
            " contract a var x 100 1 var y 9 2 hold gold 7 end")
        self.check(text, (((4,), (95, 8)), ((13, 14), (11, 12)), (15, 16)))

    def test_other_sizes(self):
        for size, value in ((100, 95), (200, 95), (96, 95), (95, 0), (94, 1), (50, 45), (2, 1), (1, 0)):
            text = OLD.replace("var x 100 1", f"var x {size} 0")
            self.check(text, (((value, 8), (4,)), ((11, 12), (13, 14)), (15, 16)))

    def test_new_variables(self):
        """They have their first values, also where another contract had such a variable."""
        text = OLD.replace("var y 9 2", "var z 20 17 var y 9 2 var w 3 0").replace("var x 10 3", "var x 10 3 var y 9 5")
        self.check(text, (((95, 17, 8, 0), (4, 5)), ((11, 12), (13, 14)), (15, 16)))

    def test_missing_variables(self):
        self.check(OLD.replace(" var y 9 2", ""), (((95,), (4,)), ((11, 12), (13, 14)), (15, 16)))
        self.check(OLD.replace("var x 100 1 var y 9 2 ", ""), (((), (4,)), ((11, 12), (13, 14)), (15, 16)))

    def test_new_contracts(self):
        """They have at the beginning what they hold."""
        text = OLD + " contract c var x 9 7 hold iron 21 hold gold 20 end contract d end"
        self.check(text, (((95, 8), (4,), (7,), ()), ((11, 12), (13, 14), (20, 21), (0, 0)), (15, 16)))

    def test_missing_contracts(self):
        """Their amounts are lost."""
        text = "asset gold 5 asset iron 6 contract b var x 10 3 hold iron 8 end"
        self.check(text, (((4,),), ((13, 14),), (15, 16)))
        self.check("asset gold 5 asset iron 6", ((), (), (15, 16)))

    def test_another_contract_in_the_place_of_one(self):
        text = OLD.replace("contract a", "contract c")
        self.check(text, (((1, 2), (4,)), ((7, 0), (13, 14)), (15, 16)))

    def test_contracts_that_change_their_names(self):
        text = OLD.replace("contract a", "contract c").replace("contract b", "contract a").replace("contract c", "contract b")
        self.check(text, (((4, 2), (95 % 10,)), ((13, 14), (11, 12)), (15, 16)))

    def test_other_holdings(self):
        """A contract of the same name takes over what the old one has."""
        text = OLD.replace("hold gold 7", "hold gold 1000 hold iron 2000").replace(" hold iron 8", "")
        self.check(text, STATE)

    def test_outsiders(self):
        """They keep what they have, whatever they would have at the beginning of the new house."""
        text = OLD.replace("asset gold 5", "asset gold 0").replace("asset iron 6", "asset iron 65535")
        self.check(text, STATE)

    def test_no_contracts(self):
        self.check("", ((), (), ()), "", ((), (), ()))
        self.check("asset gold 9", ((), (), (4,)), "asset gold 3", ((), (), (4,)))
        self.check("asset gold 9 contract a var x 3 2 hold gold 8 end", (((2,),), ((8,),), (4,)),
                   "asset gold 3", ((), (), (4,)))
        self.check("asset gold 9", ((), (), (4,)), "asset gold 9 contract a hold gold 8 end", (((),), ((1,),), (4,)))
        self.check("contract a var x 3 2 end", (((1,),), ((),), ()), "contract a var x 9 0 end", (((7,),), ((),), ()))

    def test_large_amounts(self):
        text = "asset gold 1 contract a hold gold 2 end"
        self.check(text, (((),), ((70000,),), (99999,)), text, (((),), ((70000,),), (99999,)))

    def test_guarded_houses(self):
        """The variable of a lock is a new one, or a missing one, or one that both have."""
        house = read_house(OLD)
        locked = guarded(house, [("lock", "b")])
        state = (STATE[0][0], STATE[0][1] + (1,)), STATE[1], STATE[2]
        self.assertEqual(carried(house, locked, STATE), ((STATE[0][0], (4, 0)), STATE[1], STATE[2]))
        self.assertEqual(carried(locked, house, state), STATE)
        self.assertEqual(carried(locked, locked, state), state)


class AssetsTest(unittest.TestCase):
    def check(self, old_text, new_text, bad):
        old, new = read_house(old_text), read_house(new_text)
        prices = [1] * len(old.assets)
        expected = (BadHouse, "assets") if bad else None
        self.assertEqual(what_of(carried, old, new, first_state(old)), expected)
        self.assertEqual(what_of(most_after, old, new, prices), expected)

    def test_assets(self):
        two = "asset gold 5 asset iron 6"
        for other in ("", "asset gold 5", "asset iron 6", "asset iron 6 asset gold 5", "asset gold 5 asset wood 6",
                      "asset gold 5 asset iron 6 asset wood 0", "asset wood 0 asset gold 5 asset iron 6"):
            self.check(two, other, True)
            self.check(other, two, True)
            self.check(two + " contract a end", other + " contract a end" if other else "contract a end", True)
        for other in (two, "asset gold 0 asset iron 65535"):
            self.check(two, other, False)
        self.check("", "", False)
        self.check("", "asset gold 0", True)

    def test_before_anything_is_too_large(self):
        large = "contract a var x 300 0 proc p 1 shown set x + x 1 end end"
        self.check(large, "asset gold 1", True)
        self.check("asset gold 1", large, True)


class MostAfterTest(unittest.TestCase):
    def check(self, old_text, new_text, *expected):
        """The most for several prices, one after the other."""
        old, new = read_house(old_text), read_house(new_text)
        for prices, value in expected:
            given = list(prices)
            self.assertEqual(most_after(old, new, given), value, prices)
            self.assertEqual(given, list(prices))
        self.assertEqual((old, new), (read_house(old_text), read_house(new_text)))

    def test_the_same_house(self):
        for text in (OPEN_BANK, SAFE_BANK):
            self.check(text, text, ([1], most(read_house(text), [1])), ([0], 0), ([7], most(read_house(text), [7])))
        self.check("", "", ([], 0))
        self.check("asset gold 3", "asset gold 3", ([2], 6))

    def test_before_the_upgrade(self):
        """The new house only takes."""
        old = "asset gold 2 contract bank hold gold 3 proc p 1 shown give gold 1 end end"
        new = "asset gold 0 contract bank proc p 1 shown get gold 1 end end"
        self.check(old, new, ([1], 5), ([3], 15), ([0], 0))

    def test_right_behind_the_upgrade(self):
        """An upgrade changes nothing of what outsiders have, so that they had as much before."""
        old = "asset gold 2 contract bank hold gold 3 proc p 1 shown give gold 1 end end"
        self.check(old, "asset gold 9", ([1], 5))
        self.check("asset gold 2", "asset gold 9", ([1], 2))

    def test_by_the_new_house(self):
        """What is left in the bank is given away by the new house."""
        old = "asset gold 2 contract bank hold gold 3 end"
        new = "asset gold 0 contract bank hold gold 50 proc p 1 shown give gold 1 end end"
        self.check(old, new, ([1], 5), ([2], 10))
        self.check(new, old, ([1], 50))
        self.check(old, new.replace("bank", "fund"), ([1], 52))

    def test_in_another_state_than_that_with_the_most(self):
        """Whoever takes the two coins at once does not get the ten of the new house."""
        old = (
            "asset gold 0 contract bank var x 3 0 hold gold 12 proc now 1 shown need = x 0 set x 1 give gold 2 end"
            " proc later 1 shown need = x 0 set x 2 end end")
        new = (
            "asset gold 0 contract bank var x 3 0 hold gold 12"
            " proc pay 1 shown need = x 2 set x 0 give gold 10 end end")
        self.assertEqual(most(read_house(old), [1]), 2)
        self.assertEqual(most(read_house(new), [1]), 0)
        self.check(old, new, ([1], 10), ([4], 40), ([1], 10))
        self.check(old, new.replace("need = x 2", "need = x 1"), ([1], 12))
        self.check(old, new.replace("need = x 2", "need = x 0"), ([1], 10))

    def test_only_while_no_call_is_open(self):
        """While the old house asks, x is 1; an upgrade cannot happen then."""
        old = (
            "asset gold 0 contract bank var x 3 0 var z 1 0 hold gold 5"
            " proc p 1 shown need = x 0 set x 1 ask z 1 set x 2 end end")
        new = "asset gold 0 contract bank var x 3 0 hold gold 5 proc pay 1 shown need = x {} give gold 5 end end"
        self.check(old, new.format(0), ([1], 5))
        self.check(old, new.format(1), ([1], 0))
        self.check(old, new.format(2), ([1], 5))

    def test_several_assets(self):
        old = "asset gold 4 asset iron 0 contract bank hold iron 3 proc p 1 shown get gold 2 give iron 1 end end"
        new = "asset gold 0 asset iron 0 contract bank proc p 1 shown get iron 2 give gold 3 end end"
        # The bank has 0, 2 or 4 of gold: outsiders change 2 of iron into 3 of gold if it has 4.
        self.check(old, new, ([1, 1], 4), ([1, 0], 4), ([0, 1], 2), ([1, 3], 6), ([3, 1], 12), ([0, 0], 0))
        self.check(old, new.replace("give gold 3", "give gold 4"), ([1, 0], 4), ([1, 1], 4))
        # The bank has 3 of gold when outsiders have 1 of gold and 3 of iron: 4 and 2 behind the change.
        more = old.replace("get gold 2", "get gold 1")
        self.check(more, new.replace("get iron 2", "get iron 1"), ([1, 0], 4), ([1, 1], 6), ([0, 1], 3))

    def test_smaller_sizes(self):
        old = "asset gold 0 contract bank var x 9 0 hold gold 5 proc p 1 shown need = x 0 set x 7 end end"
        new = "asset gold 0 contract bank var x {} 0 proc p 1 shown need = x 2 give gold 5 end end"
        for size, value in ((3, 0), (4, 0), (5, 5), (9, 0)):
            self.check(old, new.format(size), ([1], value))

    def test_guards_as_an_upgrade(self):
        old = read_house(OPEN_BANK)
        new = guarded(old, [("lock", "bank")])
        self.assertEqual(most_after(old, new, [1]), 3)
        self.assertEqual(most_after(new, old, [1]), 3)
        self.assertEqual(most_after(new, new, [1]), 1)
        self.assertEqual(most_after(read_house(SAFE_BANK), old, [1]), 3)


class TooLargeTest(unittest.TestCase):
    SMALL = "contract bank var x 3 0 end"
    COUNTER = "contract bank var x {} 0 proc p 1 shown set x + x 1 end end"

    def check(self, old, new, what):
        expected = None if what is None else (TooLarge, what)
        self.assertEqual(what_of(most_after, read_house(old), read_house(new), []), expected)

    def test_the_old_house(self):
        self.check(self.COUNTER.format(200), self.SMALL, None)
        self.check(self.COUNTER.format(201), self.SMALL, "states")

    def test_the_new_house(self):
        self.check(self.SMALL, self.COUNTER.format(200), None)
        self.check(self.SMALL, self.COUNTER.format(201), "states")

    def test_each_search_has_its_own_limit(self):
        self.check(self.COUNTER.format(200), self.COUNTER.format(200), None)
        self.check(self.COUNTER.format(150), "contract bank var x 150 0 var y 2 0 proc p 1 shown set y 1 end end", None)

    def test_from_one_of_the_states(self):
        """The new house is small from its own beginning, and from all states but the one with x = 2."""
        new = "contract bank var x 3 0 var y {} 0 proc p 1 shown need = x 2 set y + y 1 end end"
        self.check(self.SMALL, new.format(201), None)
        old = "contract bank var x 3 0 proc p 1 shown need < x {} set x + x 1 end end"
        self.check(old.format(1), new.format(201), None)
        self.check(old.format(2), new.format(200), None)
        self.check(old.format(2), new.format(201), "states")

    def test_ways(self):
        ways = "contract bank var x 3 0 var y 1 0 proc p 1 shown need = x {} set x 1 ask y {} ask y 40 set x 0 end end"
        self.check(ways.format(0, 50), self.SMALL, None)
        self.check(ways.format(0, 51), self.SMALL, "ways")
        self.check(self.SMALL, ways.format(0, 50), None)
        self.check(self.SMALL, ways.format(0, 51), "ways")
        self.check(self.SMALL, ways.format(2, 51), None)
        self.check("contract bank var x 3 2 end", ways.format(2, 51), "ways")


class ComparedTest(unittest.TestCase):
    def other_house(self, random, house):
        """A house with the same assets: other contracts, or the same ones with other procedures."""
        while True:
            other = read_house(SmallMaker(random.randrange(10 ** 6)).house())
            if [row[0] for row in other.assets] == [row[0] for row in house.assets]:
                return other

    def slow_carried(self, old, new, state):
        """What is carried, by names."""
        values, amounts = [], []
        had = {contract[0]: at for at, contract in enumerate(old.contracts)}
        for contract in new.contracts:
            held = dict(contract[2])
            own = [held.get(name, 0) for name, _ in new.assets]
            names = {}
            if contract[0] in had:
                own = state[1][had[contract[0]]]
                names = dict(zip([row[0] for row in old.contracts[had[contract[0]]][1]], state[0][had[contract[0]]]))
            values.append(tuple(names[row[0]] % row[1] if row[0] in names else row[2] for row in contract[1]))
            amounts.append(tuple(own))
        return tuple(values), tuple(amounts), state[2]

    def test_small_houses(self):
        greater = 0
        for seed in range(8000, 8250):
            random = Random(seed)
            old = read_house(SmallMaker(seed).house())
            new = self.other_house(random, old)
            prices = [random.randint(0, 2) for _ in old.assets]
            try:
                states = reachable(old)
                found = [worth(state, prices) for state in states]
                for state in states:
                    start = self.slow_carried(old, new, state)
                    self.assertEqual(carried(old, new, state), start)
                    found += [worth(end, prices) for end in reachable(beginning_at(new, start))]
            except TooLarge:
                self.assertIs(what_of(most_after, old, new, prices)[0], TooLarge, seed)
                continue
            self.assertEqual(most_after(old, new, prices), max(found), seed)
            greater += max(found) > most(old, prices)
        self.assertGreater(greater, 10)

    def test_walks(self):
        """Walks of the old house, an upgrade, and a walk of the new house: never more than the most."""
        for seed in range(9000, 9100):
            random = Random(seed)
            old = read_house(SmallMaker(seed).house())
            new = self.other_house(random, old)
            prices = [random.randint(0, 2) for _ in old.assets]
            try:
                limit = most_after(old, new, prices)
            except TooLarge:
                continue
            first = self.walked(random, Walk(old), old)
            self.assertLessEqual(worth(first, prices), limit)
            last = self.walked(random, Walk(new, carried(old, new, first)), new)
            self.assertLessEqual(worth(last, prices), limit)

    def walked(self, random, doing, house):
        """The state after some acts at random, with no question open."""
        calls = [("call", contract[0], row[0], number)
                 for contract in house.contracts for row in contract[3] if row[2] for number in range(row[1])]
        for _ in range(12 if calls else 0):
            if doing.asked() and random.random() < 0.5:
                doing.act(("answer", random.randrange(doing.asked())))
            else:
                doing.act(random.choice(calls))
        while doing.asked():
            doing.act(("answer", 0))
        return doing.state


def beginning_at(house, state):
    """The house that begins in a state."""
    contracts = []
    for contract, values, amounts in zip(house.contracts, state[0], state[1]):
        variables = tuple((name, size, value) for (name, size, _), value in zip(contract[1], values))
        holdings = tuple((name, amount) for (name, _), amount in zip(house.assets, amounts))
        contracts.append((contract[0], variables, holdings, contract[3]))
    assets = tuple((name, amount) for (name, _), amount in zip(house.assets, state[2]))
    return House(assets, tuple(contracts))


if __name__ == "__main__":
    unittest.main()
