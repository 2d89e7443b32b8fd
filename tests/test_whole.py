"""The document as a whole: houses with guards and parts of houses, new values, and no argument modified."""

import unittest
from copy import deepcopy
from random import Random

from nestcall.apart import part_house, parts
from nestcall.code import Code, compiled
from nestcall.errors import BadAct, BadGuard, BadHouse, BadPaper, BadText, HouseError, TooLarge
from nestcall.guards import guarded, least_guards
from nestcall.house import House, house_text, read_house
from nestcall.judge import bound, is_closed
from nestcall.machine import Machine
from nestcall.most import best_play, most, play_to
from nestcall.outsider import Outsider, acts_of, outsider_of, outsider_text, read_outsider
from nestcall.paper import paper_lines, read_paper, read_state, state_text
from nestcall.search import least_rows, reachable
from nestcall.state import first_state, worth
from nestcall.upgrade import carried, most_after
from nestcall.walk import Walk, walk
from nestcall.words import Cursor
from tests.helper import Maker
from tests.reference import SlowWalk, TooMuch, beginning, calls_of, slow_closed, slow_lengths, slow_rows
from tests.small import SmallMaker
from tests.test_rows import OPEN_BANK


def some_guards(random, house):
    """Some guards that a house can have."""
    guards = []
    for name, variables, _, procedures in house.contracts:
        guards += [("hide", name, row[0]) for row in procedures if row[2] and random.random() < 0.2]
        guards += [("floor", name, asset, random.randint(-1, 2)) for asset, _ in house.assets if random.random() < 0.3]
        if "lock" not in [row[0] for row in variables] and random.random() < 0.5:
            guards.append(("lock", name))
    random.shuffle(guards)
    return guards


def changed_houses(seeds):
    """Houses that `guarded` and `part_house` return, one after the other."""
    for seed in seeds:
        random = Random(seed)
        house = read_house(SmallMaker(seed).house())
        if seed % 3:
            house = guarded(house, some_guards(random, house))
        if seed % 3 != 1:
            house = part_house(house, random.choice(parts(house)))
        yield seed, house


class ChangedHousesTest(unittest.TestCase):
    def test_walks(self):
        deep = 0
        for seed, house in changed_houses(range(400)):
            random = Random(seed)
            one, other = Walk(house), SlowWalk(house)
            calls = calls_of(house) + [("call", "bank", "r", 0)]
            for _ in range(25):
                act = random.choice(calls)
                if one.asked() and random.random() < 0.5:
                    act = ("answer", random.randint(0, one.asked()))
                self.assertIs(one.can(act), bool(other.can(act)), seed)
                if one.can(act):
                    one.act(act)
                    other.act(act)
                expected = (other.state(), other.failed, other.acts, other.asked(), other.depth())
                self.assertEqual((one.state, one.failed, one.acts, one.asked(), one.depth()), expected, seed)
                deep += one.depth() > 2
        self.assertGreater(deep, 100)

    def test_rows_and_plays(self):
        larger = 0
        for seed, house in changed_houses(range(1000, 1200)):
            try:
                rows = slow_rows(house, 25, 60)
            except TooMuch:
                continue
            pairs = least_rows(house)
            self.assertEqual({state: set(row) for state, row in pairs}, rows, seed)
            self.assertEqual(pairs[0][0], beginning(house))
            self.assertTrue(is_closed(house, pairs) and slow_closed(house, pairs), seed)
            lengths = slow_lengths(house, rows)[first_state(house)]
            for state in lengths:
                play = play_to(house, state)
                self.assertEqual(len(play), lengths[state], seed)
                self.assertEqual(walk(house, play).state, state)
                self.assertEqual(read_state(house, state_text(state)), state)
            prices = [1, 2][:len(house.assets)]
            self.assertEqual(bound(house, pairs, prices), most(house, prices))
            self.assertEqual(worth(walk(house, best_play(house, prices)).state, prices), most(house, prices))
            self.assertEqual(read_paper(house, paper_lines(pairs)), pairs)
            larger += len(lengths) > 2
        self.assertGreater(larger, 20)

    def test_guards_once_more(self):
        """Guards of a guarded house; floors of both stand in their order."""
        house = read_house("asset gold 2 contract a hold gold 3 proc p 3 shown give gold given end end")
        once = guarded(house, [("floor", "a", "gold", 1)])
        twice = guarded(once, [("floor", "a", "gold", 2), ("lock", "a")])
        self.assertEqual([most(each, [1]) for each in (house, once, twice)], [5, 4, 3])
        self.assertEqual(least_guards(once, [("floor", "a", "gold", 1), ("hide", "a", "p")], [1], 3), [[("hide", "a", "p")]])
        self.assertEqual(most_after(twice, house, [1]), 5)
        self.assertEqual(carried(twice, once, first_state(twice)), first_state(once))

    def test_texts(self):
        """The text of a part is that of a house; so is that of a house with few guards."""
        for seed in range(200):
            house = read_house((Maker if seed % 2 else SmallMaker)(seed).house())
            for row in parts(house):
                part = part_house(house, row)
                self.assertEqual(read_house(house_text(part)), part, seed)
        for seed in range(100):
            house = read_house(SmallMaker(seed).house())
            guards = [guard for guard in some_guards(Random(seed), house) if guard[0] != "floor" or guard[3] >= 0]
            self.assertEqual(read_house(house_text(guarded(house, guards))), guarded(house, guards), seed)

    def test_outsiders(self):
        house = guarded(read_house(OPEN_BANK), [("lock", "bank")])
        outsider = read_outsider("when < deep 2 call bank draw 0 0 when 1 answer 0 0")
        draw = ("call", "bank", "draw", 0)
        self.assertEqual(acts_of(house, outsider, 5), [draw] * 5)
        self.assertEqual(walk(house, [draw] * 5).failed, 2)


class ArgumentsTest(unittest.TestCase):
    def check(self, asking, *arguments):
        """The function modifies no argument, and tells the same again, in new lists."""
        house = read_house(OPEN_BANK)
        kept = deepcopy(arguments)
        first = asking(house, *arguments)
        self.assertEqual(arguments, kept, asking)
        self.assertEqual(house, read_house(OPEN_BANK), asking)
        expected = deepcopy(first)
        if isinstance(first, list):
            for part in first:
                if isinstance(part, list):
                    part.append("more")
            first.append("more")
        self.assertEqual(asking(house, *arguments), expected, asking)
        self.assertEqual(house, read_house(OPEN_BANK), asking)

    def test_all_functions(self):
        house = read_house(OPEN_BANK)
        state = reachable(house)[-1]
        rows = least_rows(house)
        draw = ("call", "bank", "draw", 0)
        guards = [("lock", "bank"), ("hide", "bank", "draw"), ("floor", "bank", "gold", 2)]
        for asking, arguments in (
                (first_state, ()), (least_rows, ()), (reachable, ()), (is_closed, (rows,)), (bound, (rows, [1])),
                (most, ([1],)), (play_to, (state,)), (best_play, ([1],)), (read_state, (state_text(state),)),
                (read_paper, (paper_lines(rows),)), (acts_of, (outsider_of([draw, draw]), 2)), (guarded, (guards,)),
                (least_guards, (guards, [1], 1)), (carried, (house, state)), (most_after, (house, [1])), (parts, ()),
                (part_house, ([0],)), (house_text, ())):
            self.check(asking, *arguments)

    def test_others(self):
        acts = [("call", "bank", "draw", 0), ("answer", 0)]
        pairs = least_rows(read_house(OPEN_BANK))
        kept = deepcopy((acts, pairs))
        outsider_text(outsider_of(acts))
        paper_lines(pairs)
        walk(read_house(OPEN_BANK), acts)
        self.assertEqual((acts, pairs), kept)


class AttributesTest(unittest.TestCase):
    def test_attributes(self):
        """Each object has the listed attributes as soon as it is created."""
        house = read_house(OPEN_BANK)
        for made, names in (
                (Cursor("a b"), {"words": ["a", "b"], "at": 0}),
                (House((), ()), {"assets": (), "contracts": ()}),
                (Walk(house), {"state": first_state(house), "failed": 0, "acts": 0}),
                (Outsider(()), {"rules": ()}),
                (compiled(read_house("")), {"instructions": (), "places": {}}),
                (Machine(house), {"state": first_state(house), "failed": 0, "acts": 0, "steps": 0})):
            for name, value in names.items():
                self.assertEqual(getattr(made, name), value)
        self.assertIs(type(compiled(house)), Code)

    def test_errors(self):
        """Each error that is raised is a HouseError with its attribute."""
        house = read_house(OPEN_BANK)
        large = read_house("contract bank var x 300 0 proc p 1 shown set x + x 1 end end")
        for error, name, value, asking, arguments in (
                (BadText, "at", 1, read_house, ("asset 5",)), (BadText, "at", 0, read_outsider, ("5",)),
                (BadText, "at", 41, outsider_of, ([("answer", 0)] * 41,)),
                (BadAct, "at", 0, walk, (house, [("answer", 0)])), (BadAct, "at", 0, Machine(house).act, (("answer", 0),)),
                (BadGuard, "at", 0, guarded, (house, [("lock", "x")])),
                (BadGuard, "at", 0, least_guards, (house, [("lock", "x")], [1], 3)),
                (BadPaper, "at", 4, read_state, (house, "", 4)), (BadPaper, "at", 0, read_paper, (house, [""])),
                (BadHouse, "what", "assets", carried, (house, large, first_state(house))),
                (BadHouse, "what", "assets", most_after, (house, large, [1])),
                (TooLarge, "what", "states", least_rows, (large,)), (TooLarge, "what", "states", most, (large, [])),
                (TooLarge, "what", "states", most_after, (large, large, []))):
            with self.assertRaises(HouseError) as caught:
                asking(*arguments)
            self.assertIs(type(caught.exception), error)
            self.assertEqual(getattr(caught.exception, name), value)


if __name__ == "__main__":
    unittest.main()
