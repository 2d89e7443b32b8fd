"""Points 22 and 23: houses with guards, and guards that a house cannot have."""

import unittest

from nestcall.errors import BadGuard
from nestcall.guards import guarded
from nestcall.house import House, read_house
from nestcall.most import most
from nestcall.search import least_rows, reachable
from nestcall.walk import Walk, walk
from tests.acting import answer, call
from tests.test_rows import OPEN_BANK

# Two contracts; of the bank's procedures one is hidden.
TWO = (
    "asset gold 4 asset iron 5 contract bank var x 9 1 hold gold 3 proc p 2 shown set x given end proc q 1 hidden"
    " give gold 1 end proc r 3 shown end end contract shop proc p 1 shown call bank p 1 need 1 end end"
)
LOCK_NEED = ("need", ("=", ("variable", "lock"), ("number", 0)))
LOCK_SET = ("set", "lock", ("number", 1))
LOCK_FREE = ("set", "lock", ("number", 0))


def floor(asset, amount):
    """The check of a floor."""
    return ("need", ("=", ("<", ("have", asset), ("number", amount)), ("number", 0)))


def bad_at(house, guards):
    """The index `at` of the BadGuard that is raised, or None."""
    try:
        guarded(house, guards)
    except BadGuard as error:
        return error.at
    return None


class GuardedTest(unittest.TestCase):
    def check(self, text, guards, bank, shop=None):
        """What comes of the contracts; without a shop it stays as it is."""
        house = read_house(text)
        given = list(guards)
        found = guarded(house, given)
        self.assertIs(type(found), House)
        self.assertIsNot(found, house)
        self.assertEqual(found.assets, house.assets)
        self.assertIs(type(found.contracts), tuple)
        self.assertEqual(found.contracts[0], bank)
        self.assertEqual(found.contracts[1:], house.contracts[1:] if shop is None else (shop,))
        self.assertEqual((house, given), (read_house(text), list(guards)))
        return found

    def contract(self, variables, p, q, r):
        """The bank of TWO with these variables, and these procedures behind their names."""
        return ("bank", variables, (("gold", 3),), (("p", 2) + p, ("q", 1) + q, ("r", 3) + r))

    X = ("x", 9, 1)
    P = ("set", "x", ("given",))
    Q = (False, (("give", "gold", ("number", 1)),))

    def test_no_guards(self):
        for text in ("", "asset gold 3", TWO, OPEN_BANK):
            self.assertEqual(guarded(read_house(text), []), read_house(text))

    def test_hide(self):
        self.check(TWO, [("hide", "bank", "p")], self.contract((self.X,), (False, (self.P,)), self.Q, (True, ())))
        self.check(TWO, [("hide", "bank", "r")], self.contract((self.X,), (True, (self.P,)), self.Q, (False, ())))
        both = self.contract((self.X,), (False, (self.P,)), self.Q, (False, ()))
        self.check(TWO, [("hide", "bank", "r"), ("hide", "bank", "p")], both)

    def test_hide_in_the_other_contract(self):
        bank, shop = read_house(TWO).contracts
        hidden = (shop[0], shop[1], shop[2], (("p", 1, False, shop[3][0][3]),))
        self.check(TWO, [("hide", "shop", "p")], bank, hidden)

    def test_lock(self):
        front, behind = (LOCK_NEED, LOCK_SET), (LOCK_FREE,)
        expected = self.contract(
            (self.X, ("lock", 2, 0)), (True, front + (self.P,) + behind), self.Q, (True, front + behind))
        self.check(TWO, [("lock", "bank")], expected)

    def test_lock_of_a_contract_without_variables(self):
        bank, shop = read_house(TWO).contracts
        block = (LOCK_NEED, LOCK_SET) + shop[3][0][3] + (LOCK_FREE,)
        self.check(TWO, [("lock", "shop")], bank, ("shop", (("lock", 2, 0),), (), (("p", 1, True, block),)))

    def test_lock_of_a_contract_with_nothing(self):
        found = guarded(read_house("contract a end contract b proc p 1 hidden end end"), [("lock", "b"), ("lock", "a")])
        self.assertEqual(found.contracts[0], ("a", (("lock", 2, 0),), (), ()))
        self.assertEqual(found.contracts[1], ("b", (("lock", 2, 0),), (), (("p", 1, False, ()),)))

    def test_floor(self):
        for amount in (0, 1, 65535, 65536, 10 ** 9, -1, -70000):
            for asset in ("gold", "iron"):
                check = (floor(asset, amount),)
                expected = self.contract((self.X,), (True, (self.P,) + check), self.Q, (True, check))
                self.check(TWO, [("floor", "bank", asset, amount)], expected)

    def test_several_floors(self):
        """They are checked in the order of the list."""
        guards = [("floor", "bank", "iron", 2), ("floor", "bank", "gold", 7), ("floor", "bank", "iron", 1)]
        for order in (guards, guards[::-1], guards[1:] + guards[:1]):
            checks = tuple(floor(asset, amount) for _, _, asset, amount in order)
            expected = self.contract((self.X,), (True, (self.P,) + checks), self.Q, (True, checks))
            self.check(TWO, order, expected)

    def test_lock_with_floors(self):
        """Floors stand behind the lock, wherever the lock stands in the list."""
        guards = [("floor", "bank", "gold", 7), ("lock", "bank"), ("floor", "bank", "iron", 1)]
        front, behind = (LOCK_NEED, LOCK_SET), (LOCK_FREE, floor("gold", 7), floor("iron", 1))
        expected = self.contract(
            (self.X, ("lock", 2, 0)), (True, front + (self.P,) + behind), self.Q, (True, front + behind))
        for order in (guards, [guards[1], guards[0], guards[2]], [guards[0], guards[2], guards[1]]):
            self.check(TWO, order, expected)

    def test_hide_with_lock_and_floor(self):
        """What is hidden now was shown, so that it is locked and has a floor as well."""
        front, behind = (LOCK_NEED, LOCK_SET), (LOCK_FREE, floor("gold", 2))
        expected = self.contract(
            (self.X, ("lock", 2, 0)), (False, front + (self.P,) + behind), self.Q, (True, front + behind))
        guards = [("hide", "bank", "p"), ("lock", "bank"), ("floor", "bank", "gold", 2)]
        for order in (guards, guards[::-1]):
            self.check(TWO, order, expected)

    def test_guards_of_both_contracts(self):
        shop = read_house(TWO).contracts[1]
        block = (LOCK_NEED, LOCK_SET) + shop[3][0][3] + (LOCK_FREE, floor("iron", 1))
        guards = [("floor", "bank", "gold", 1), ("floor", "shop", "iron", 1), ("lock", "shop"), ("hide", "bank", "r")]
        expected = self.contract((self.X,), (True, (self.P, floor("gold", 1))), self.Q, (False, (floor("gold", 1),)))
        self.check(TWO, guards, expected, ("shop", (("lock", 2, 0),), (), (("p", 1, True, block),)))

    def test_full_contracts(self):
        """A guard may bring a contract over what a text allows."""
        text = (
            "contract bank " + "".join(f"var {name} 2 0 " for name in "abcdef") + "proc p 1 shown " + "need 1 " * 24
            + "end end")
        found = guarded(read_house(text), [("lock", "bank")])
        self.assertEqual(len(found.contracts[0][1]), 7)
        self.assertEqual(len(found.contracts[0][3][0][3]), 27)
        self.assertEqual(len(reachable(found)), 1)


class RunningTest(unittest.TestCase):
    def test_lock(self):
        """The second draw fails, and the whole call with it."""
        house = guarded(read_house(OPEN_BANK), [("lock", "bank")])
        draw = call("draw")
        doing = walk(house, [draw])
        self.assertEqual((doing.state, doing.asked()), ((((1, 0, 1),), ((2,),), (1,)), 1))
        doing.act(draw)
        self.assertEqual((doing.state, doing.failed, doing.depth()), ((((1, 0, 0),), ((3,),), (0,)), 1, 0))
        doing = walk(house, [draw, answer(0)])
        self.assertEqual((doing.state, doing.failed), ((((0, 0, 0),), ((2,),), (1,)), 0))
        self.assertEqual(most(house, [1]), 1)
        self.assertEqual(len(least_rows(house)), 2)

    def test_a_lock_is_that_of_one_contract(self):
        """While the shop asks, the bank can be called, but not the shop."""
        text = (
            "contract bank var x 9 0 proc p 1 shown set x + x 1 end end"
            " contract shop var y 9 0 proc q 1 shown ask y 9 end proc r 1 shown end end")
        doing = walk(guarded(read_house(text), [("lock", "shop")]), [call("q", 0, "shop"), call("p")])
        self.assertEqual((doing.failed, doing.depth()), (0, 1))
        doing.act(call("r", 0, "shop"))
        self.assertEqual((doing.failed, doing.depth()), (1, 0))

    def test_a_lock_and_calls_within_the_contract(self):
        """A shown procedure that another one of the contract calls finds the lock; a hidden one is not locked."""
        text = (
            "contract bank var x 9 0 proc low 1 {} set x + x 1 end proc p 1 shown call bank low 0 end end")
        locked = guarded(read_house(text.format("hidden")), [("lock", "bank")])
        self.assertEqual(walk(locked, [call("p")] * 2).state, (((2, 0),), ((),), ()))
        locked = guarded(read_house(text.format("shown")), [("lock", "bank")])
        doing = walk(locked, [call("p"), call("low")])
        self.assertEqual((doing.failed, doing.state), (1, (((1, 0),), ((),), ())))

    def test_floor(self):
        text = "asset gold 0 contract bank hold gold 5 proc pay 9 shown give gold given end end"
        for amount, most_of_all in ((0, 5), (1, 4), (3, 2), (5, 0), (-4, 5)):
            house = guarded(read_house(text), [("floor", "bank", "gold", amount)])
            self.assertEqual(most(house, [1]), most_of_all, amount)
        for amount in (6, 65535, 65536, 70000):
            doing = Walk(guarded(read_house(text), [("floor", "bank", "gold", amount)]))
            doing.act(call("pay", 0))
            self.assertEqual(doing.failed, 1)

    def test_floor_of_a_large_amount(self):
        """More than 65535 is told as 65535."""
        text = "asset gold 9 contract bank hold gold 65535 proc p 1 shown get gold 9 end end"
        for amount, failed in ((65535, 0), (65536, 1), (65540, 1)):
            doing = walk(guarded(read_house(text), [("floor", "bank", "gold", amount)]), [call("p")])
            self.assertEqual(doing.failed, failed, amount)

    def test_floor_only_at_the_end(self):
        """Behind everything else, also behind questions; a loan that is given back does not break it."""
        text = (
            "asset gold 0 contract bank var z 1 0 hold gold 5"
            " proc lend 1 shown give gold 5 ask z 1 get gold 5 end end")
        doing = walk(guarded(read_house(text), [("floor", "bank", "gold", 5)]), [call("lend"), answer(0)])
        self.assertEqual((doing.failed, doing.depth()), (0, 0))

    def test_hide(self):
        house = guarded(read_house(TWO), [("hide", "bank", "p")])
        doing = Walk(house)
        self.assertIs(doing.can(call("p")), False)
        self.assertIs(doing.can(call("r")), True)
        doing.act(call("p", 0, "shop"))
        self.assertEqual((doing.failed, doing.state[0]), (0, ((1,), ())))


class BadGuardTest(unittest.TestCase):
    GOOD = [("hide", "bank", "p"), ("lock", "bank"), ("floor", "bank", "gold", 2), ("floor", "shop", "iron", 0)]

    def check_bad(self, text, wrong):
        """The guard is refused at each place of a list of others."""
        house = read_house(text)
        self.assertEqual(bad_at(house, [wrong]), 0, wrong)
        for at in range(len(self.GOOD) + 1):
            guards = self.GOOD[:at] + [wrong] + self.GOOD[at:]
            kept = list(guards)
            self.assertEqual(bad_at(house, guards), at, guards)
            self.assertEqual(bad_at(house, guards + [wrong, ("lock", "nobody")]), at, guards)
            self.assertEqual(guards, kept)

    def test_good_guards(self):
        self.assertIsNone(bad_at(read_house(TWO), self.GOOD))

    def test_unknown_contract(self):
        for wrong in (("hide", "club", "p"), ("lock", "club"), ("floor", "club", "gold", 1), ("lock", "gold"), ("lock", "p")):
            self.check_bad(TWO, wrong)

    def test_unknown_procedure(self):
        for wrong in (("hide", "bank", "s"), ("hide", "shop", "r"), ("hide", "bank", "bank"), ("hide", "bank", "x")):
            self.check_bad(TWO, wrong)

    def test_hidden_procedure(self):
        self.check_bad(TWO, ("hide", "bank", "q"))

    def test_unknown_asset(self):
        for wrong in (("floor", "bank", "wood", 1), ("floor", "shop", "x", 0), ("floor", "bank", "bank", 0)):
            self.check_bad(TWO, wrong)
        self.assertEqual(bad_at(read_house("contract bank end"), [("floor", "bank", "gold", 0)]), 0)

    def test_a_variable_lock(self):
        text = TWO.replace("contract shop", "contract shop var lock 2 0")
        self.check_bad(text, ("lock", "shop"))
        text = "contract bank var a 1 0 var lock 9 3 var b 1 0 proc lock 1 shown end end"
        self.assertEqual(bad_at(read_house(text), [("hide", "bank", "lock"), ("lock", "bank")]), 1)

    def test_other_guards_of_a_contract_with_a_variable_lock(self):
        text = TWO.replace("contract shop", "contract shop var lock 2 0")
        self.assertIsNone(bad_at(read_house(text), [("hide", "shop", "p"), ("floor", "shop", "iron", 0)]))
        self.assertIsNone(bad_at(read_house("contract lock proc lock 1 shown end end"), [("lock", "lock")]))

    def test_twice(self):
        house = read_house(TWO)
        for guard in self.GOOD:
            for at in range(self.GOOD.index(guard) + 1, len(self.GOOD) + 1):
                guards = self.GOOD[:at] + [guard] + self.GOOD[at:]
                self.assertEqual(bad_at(house, guards), at, guards)
        self.assertEqual(bad_at(house, [self.GOOD[0]] * 3), 1)

    def test_nearly_twice(self):
        guards = [
            ("floor", "bank", "gold", 2), ("floor", "bank", "gold", 3), ("floor", "bank", "iron", 2),
            ("floor", "shop", "gold", 2), ("hide", "bank", "p"), ("hide", "bank", "r"), ("hide", "shop", "p"),
            ("lock", "bank"), ("lock", "shop")]
        self.assertIsNone(bad_at(read_house(TWO), guards))

    def test_the_first_one_counts(self):
        house = read_house(TWO)
        guards = [("lock", "bank"), ("hide", "bank", "q"), ("lock", "bank"), ("lock", "club")]
        self.assertEqual(bad_at(house, guards), 1)
        self.assertEqual(bad_at(house, [guards[0]] + guards[2:]), 1)
        self.assertEqual(bad_at(house, guards[2:]), 1)

    def test_asked_of_the_house_without_guards(self):
        """Hiding p does not make it hidden for other guards, and the lock's variable is no variable yet."""
        self.assertIsNone(bad_at(read_house(TWO), [("lock", "bank"), ("hide", "bank", "p"), ("floor", "bank", "gold", 1)]))
        again = guarded(read_house(TWO), [("lock", "bank"), ("hide", "bank", "p")])
        self.assertEqual(bad_at(again, [("lock", "bank")]), 0)
        self.assertEqual(bad_at(again, [("hide", "bank", "p")]), 0)
        self.assertIsNone(bad_at(again, [("hide", "bank", "r"), ("lock", "shop")]))

    def test_no_contracts(self):
        for guard in (("hide", "bank", "p"), ("lock", "bank"), ("floor", "bank", "gold", 1)):
            self.assertEqual(bad_at(read_house("asset gold 1"), [guard]), 0)


if __name__ == "__main__":
    unittest.main()
