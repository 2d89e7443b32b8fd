"""Point 24: the least sets of guards that keep a limit."""

import unittest
from itertools import combinations
from random import Random

from nestcall.errors import BadGuard, TooLarge
from nestcall.guards import guarded, least_guards
from nestcall.house import read_house
from nestcall.most import most
from tests.small import SmallMaker
from tests.test_rows import OPEN_BANK

# Three ways to get a coin, each from another contract.
THREE = (
    "asset gold 0 contract a var x 2 0 hold gold 1 proc p 1 shown give gold have gold end proc q 1 shown end end"
    " contract b var x 2 0 hold gold 1 proc p 1 shown give gold have gold end end"
    " contract c var x 2 0 hold gold 1 proc p 1 shown give gold have gold end end"
)
HIDE_A, HIDE_B, HIDE_C = ("hide", "a", "p"), ("hide", "b", "p"), ("hide", "c", "p")
HIDE_Q = ("hide", "a", "q")
LOCK = ("lock", "bank")
HIDE = ("hide", "bank", "draw")


def all_sets(candidates):
    return [list(picked) for size in range(len(candidates) + 1) for picked in combinations(candidates, size)]


def slow_least(sets, worths, limit):
    """The least ones of all sets, whose most is given, straight from the words of the document."""
    keeping = [guards for guards, value in zip(sets, worths) if value <= limit]
    return [guards for guards in keeping if not any(set(other) < set(guards) for other in keeping)]


class LeastGuardsTest(unittest.TestCase):
    def check(self, text, candidates, prices, limit, expected):
        house = read_house(text)
        given = (list(candidates), list(prices))
        found = least_guards(house, given[0], given[1], limit)
        self.assertEqual(found, expected)
        self.assertEqual({type(guards) for guards in found} - {list}, set())
        self.assertIs(type(found), list)
        self.assertEqual(given, (list(candidates), list(prices)))
        self.assertEqual(house, read_house(text))
        for guards in found:
            guards.clear()
        self.assertEqual(least_guards(house, given[0], given[1], limit), expected)

    def test_without_candidates(self):
        self.check(OPEN_BANK, [], [1], 3, [[]])
        self.check(OPEN_BANK, [], [1], 2, [])
        self.check("", [], [], 0, [[]])
        self.check("", [], [], -1, [])
        self.check("asset gold 4", [], [2], 8, [[]])
        self.check("asset gold 4", [], [2], 7, [])

    def test_one_of_two(self):
        """The open bank gives away 3; locked it gives 1, and hidden nothing."""
        self.check(OPEN_BANK, [LOCK, HIDE], [1], 3, [[]])
        self.check(OPEN_BANK, [LOCK, HIDE], [1], 2, [[LOCK], [HIDE]])
        self.check(OPEN_BANK, [HIDE, LOCK], [1], 2, [[HIDE], [LOCK]])
        self.check(OPEN_BANK, [LOCK, HIDE], [1], 1, [[LOCK], [HIDE]])
        self.check(OPEN_BANK, [LOCK, HIDE], [1], 0, [[HIDE]])
        self.check(OPEN_BANK, [LOCK, HIDE], [1], -1, [])
        self.check(OPEN_BANK, [LOCK], [1], 0, [])

    def test_a_limit_that_every_set_keeps(self):
        self.check(OPEN_BANK, [LOCK, HIDE], [1], 100, [[]])
        self.check(THREE, [HIDE_A, HIDE_B, HIDE_C, HIDE_Q], [0], 0, [[]])

    def test_a_limit_that_no_set_keeps(self):
        self.check(THREE, [HIDE_A, HIDE_B, HIDE_Q], [1], 0, [])
        self.check(THREE, [HIDE_A, HIDE_B, HIDE_C, HIDE_Q], [1], -1, [])

    def test_two_needed(self):
        candidates = [HIDE_A, HIDE_B, HIDE_C]
        self.check(THREE, candidates, [1], 3, [[]])
        self.check(THREE, candidates, [1], 2, [[HIDE_A], [HIDE_B], [HIDE_C]])
        self.check(THREE, candidates, [1], 1, [[HIDE_A, HIDE_B], [HIDE_A, HIDE_C], [HIDE_B, HIDE_C]])
        self.check(THREE, candidates, [1], 0, [candidates])

    def test_the_order_of_the_candidates(self):
        candidates = [HIDE_C, HIDE_Q, HIDE_A, HIDE_B]
        self.check(THREE, candidates, [1], 1, [[HIDE_C, HIDE_A], [HIDE_C, HIDE_B], [HIDE_A, HIDE_B]])
        self.check(THREE, candidates, [1], 0, [[HIDE_C, HIDE_A, HIDE_B]])
        self.check(THREE, candidates[::-1], [1], 0, [[HIDE_B, HIDE_A, HIDE_C]])

    def test_smaller_sets_first(self):
        """A single floor of the bank does what hiding both procedures does."""
        text = (
            "asset gold 0 contract bank hold gold 4 proc p 1 shown give gold have gold end"
            " proc q 1 shown give gold have gold end end")
        first, second, floor = ("hide", "bank", "p"), ("hide", "bank", "q"), ("floor", "bank", "gold", 4)
        self.check(text, [first, second, floor], [1], 0, [[floor], [first, second]])
        self.check(text, [floor, first, second], [1], 3, [[floor], [first, second]])
        self.check(text, [first, floor, second], [1], 4, [[]])

    def test_floors(self):
        text = "asset gold 0 contract bank hold gold 4 proc pay 9 shown give gold given end end"
        floors = [("floor", "bank", "gold", amount) for amount in (-5, 0, 1, 3, 4, 70000)]
        self.check(text, floors, [1], 4, [[]])
        self.check(text, floors, [1], 3, [[floor] for floor in floors[2:]])
        self.check(text, floors, [1], 1, [[floor] for floor in floors[3:]])
        self.check(text, floors, [1], 0, [[floor] for floor in floors[4:]])
        self.check(text, floors[:2], [1], 3, [])
        self.check(text, [("floor", "bank", "gold", -70000)], [1], 4, [[]])

    def test_many_candidates(self):
        """Five procedures give one coin each, once; a floor of 9 - k lets them give k away."""
        text = (
            "asset gold 0 contract a " + "".join(f"var x{k} 2 0 " for k in range(5)) + "hold gold 9 "
            + "".join(f"proc p{k} 1 shown need = x{k} 0 set x{k} 1 give gold 1 end " for k in range(5)) + "end")
        hides = [("hide", "a", f"p{k}") for k in range(5)]
        floors = [("floor", "a", "gold", k) for k in range(4, 10)]
        candidates = [("lock", "a")] + hides + floors
        for limit in range(6):
            single = [[floor] for floor in floors if limit < 5 and floor[3] >= 9 - limit]
            others = [list(picked) for picked in combinations(hides, 5 - limit)]
            expected = others + single if limit == 4 else single + others
            self.check(text, candidates, [1], limit, expected)

    def test_prices(self):
        text = (
            "asset gold 0 asset iron 0 contract bank hold gold 1 hold iron 1 proc p 1 shown give gold 1 end"
            " proc q 1 shown give iron 1 end end")
        gold, iron = ("hide", "bank", "p"), ("hide", "bank", "q")
        self.check(text, [gold, iron], [2, 3], 4, [[gold], [iron]])
        self.check(text, [gold, iron], [2, 3], 2, [[iron]])
        self.check(text, [gold, iron], [2, 3], 1, [[gold, iron]])
        self.check(text, [gold, iron], [0, 3], 2, [[iron]])

    def test_bad_guards(self):
        house = read_house(THREE)
        for wrong in (("hide", "a", "z"), ("lock", "z"), ("floor", "a", "iron", 1), HIDE_A):
            for at in (1, 2, 3):
                candidates = [HIDE_A, HIDE_B, HIDE_C]
                candidates.insert(at, wrong)
                for limit in (-1, 100):
                    with self.assertRaises(BadGuard) as caught:
                        least_guards(house, candidates + [("lock", "y")], [1], limit)
                    self.assertEqual(caught.exception.at, at)


class TooLargeTest(unittest.TestCase):
    def check_what(self, text, candidates, limit, what):
        """TooLarge is raised for one limit that the empty set keeps, and for one that nothing keeps."""
        house = read_house(text)
        raised = None
        try:
            least_guards(house, candidates, [1] * len(house.assets), limit)
        except TooLarge as error:
            raised = error.what
        self.assertEqual(raised, what, (candidates, limit))

    def check(self, text, candidates, what):
        for limit in (-1, 0, 100):
            self.check_what(text, candidates, limit, what)

    def test_the_house_without_guards(self):
        text = "contract bank var x 201 0 proc p 1 shown set x + x 1 end proc q 1 shown end end"
        for candidates in ([], [("hide", "bank", "p")], [("hide", "bank", "q")], [("lock", "bank")]):
            self.check(text, candidates, "states")

    def test_just_small_enough(self):
        text = "contract bank var x 200 0 proc p 1 shown set x + x 1 end proc q 1 shown end end"
        self.check(text, [("lock", "bank"), ("hide", "bank", "p"), ("hide", "bank", "q")], None)

    def test_only_with_a_lock(self):
        """The state in which the question is asked occurs anyway, but not with the lock set: 120 states more."""
        text = "contract bank var x 120 0 var z 1 0 proc p 1 shown set x + x 1 ask z 1 end end"
        hide, lock = ("hide", "bank", "p"), ("lock", "bank")
        self.check(text, [], None)
        self.check(text, [hide], None)
        self.check(text, [lock], "states")
        self.check(text, [lock, hide], "states")
        self.check(text, [hide, lock], "states")

    def test_only_with_two_locks(self):
        """Each lock alone adds 70 states to the 70 of the house itself, and both add 210."""
        text = (
            "contract a var x 70 0 var z 1 0 proc p 1 shown set x + x 1 ask z 1 end end"
            " contract b var z 1 0 proc p 1 shown call a p 0 end proc q 1 shown ask z 1 end end")
        house = read_house(text)
        counts = []
        for guards in ([], [("lock", "a")], [("lock", "b")], [("lock", "a"), ("lock", "b")]):
            with self.subTest(guards):
                try:
                    most(guarded(house, guards), [])
                    counts.append(None)
                except TooLarge as error:
                    counts.append(error.what)
        self.assertEqual(counts, [None, None, None, "states"])
        self.check(text, [("lock", "a")], None)
        self.check(text, [("lock", "b"), ("hide", "b", "q")], None)
        self.check(text, [("lock", "b"), ("hide", "b", "q"), ("lock", "a")], "states")

    def test_bad_guards_first(self):
        text = "contract bank var x 201 0 proc p 1 shown set x + x 1 end end"
        with self.assertRaises(BadGuard) as caught:
            least_guards(read_house(text), [("lock", "bank"), ("lock", "bank")], [], 0)
        self.assertEqual(caught.exception.at, 1)


class ComparedTest(unittest.TestCase):
    BLOCKS = (
        "give gold 1", "need c give gold 1 ask z 1 set c 0", "give gold have gold ask z 1 get gold 1", "need have gold",
        "get gold 1 ask z 1 give gold 2", "need c set c 0 give gold 1", "call {} p 0", "call {} p 0 give gold 1")

    def paying_house(self, random):
        """A house whose contracts give gold away in several ways."""
        words = ["asset gold 1"]
        before = []
        for name in ("a", "b", "c")[:random.randint(1, 3)]:
            words.append(f"contract {name} var c 2 1 var z 1 0 hold gold {random.randint(1, 2)}")
            for procedure in ("p", "q")[:random.randint(1, 2)]:
                block = random.choice(self.BLOCKS[:-2] if procedure == "p" else self.BLOCKS)
                words.append(f"proc {procedure} 1 shown {block.format(random.choice(before + [name]))} end")
            words.append("end")
            before.append(name)
        return read_house(" ".join(words))

    def candidates(self, random, house, most_of_all):
        """Some guards that a house can have."""
        every = []
        for name, _, _, procedures in house.contracts:
            every += [("hide", name, procedure[0]) for procedure in procedures if procedure[2]]
            every += [("lock", name)]
            every += [("floor", name, asset, random.randint(-1, 3)) for asset, _ in house.assets]
        return random.sample(every, min(len(every), random.randint(2, most_of_all)))

    def check(self, random, house, candidates):
        """Compares the least sets for some limits; tells how many of them have more than one guard."""
        prices = [random.randint(1, 2) for _ in house.assets]
        try:
            worths = [most(guarded(house, guards), prices) for guards in all_sets(candidates)]
        except TooLarge:
            with self.assertRaises(TooLarge):
                least_guards(house, candidates, prices, random.choice((-1, 1000)))
            return 0
        larger = 0
        for limit in {worths[0], worths[-1], worths[-1] - 1, (worths[0] + worths[-1]) // 2}:
            expected = slow_least(all_sets(candidates), worths, limit)
            self.assertEqual(least_guards(house, candidates, prices, limit), expected, (candidates, limit))
            larger += any(len(guards) > 1 for guards in expected)
        return larger

    def test_paying_houses(self):
        larger = 0
        for seed in range(70):
            random = Random(seed)
            house = self.paying_house(random)
            larger += self.check(random, house, self.candidates(random, house, 6))
        self.assertGreater(larger, 25)

    def test_small_houses(self):
        for seed in range(250):
            random = Random(seed)
            house = read_house(SmallMaker(seed).house())
            self.check(random, house, self.candidates(random, house, 4))


if __name__ == "__main__":
    unittest.main()
