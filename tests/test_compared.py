"""Points 9 to 17: small houses made at random, run and searched by tests/reference.py, too."""

import unittest
from random import Random
from unittest.mock import patch

from nestcall import judge, search
from nestcall.errors import TooLarge
from nestcall.house import read_house
from nestcall.judge import bound, is_closed
from nestcall.search import least_rows, reachable
from nestcall.state import first_state, worth
from nestcall.walk import Walk
from tests.helper import Maker
from tests.reference import SlowWalk, TooMuch, beginning, calls_of, slow_closed, slow_rows, ways_of
from tests.small import SmallMaker


def small_house(seed):
    return read_house(SmallMaker(seed).house())


def searched(seeds):
    """Small houses with their least closed rows, where these are found soon."""
    for seed in seeds:
        house = small_house(seed)
        try:
            yield seed, house, slow_rows(house, 40, 150)
        except TooMuch:
            continue


def state_near(random, state):
    """A state that differs from another one in some amounts, or None for the beginning."""
    if random.random() < 0.5:
        return None
    change = random.choice((0, 1, 65536))
    return state[0], tuple(tuple(n + change for n in row) for row in state[1]), tuple(n + change for n in state[2])


class WalksTest(unittest.TestCase):
    def check_act(self, one, other, act, seed):
        self.assertIs(one.can(act), bool(other.can(act)), (seed, act))
        if one.can(act):
            one.act(act)
            other.act(act)
        expected = (other.state(), other.failed, other.acts, other.asked(), other.depth())
        self.assertEqual((one.state, one.failed, one.acts, one.asked(), one.depth()), expected, (seed, act))

    def check_walk(self, house, seed, count):
        """A walk of so many acts at random; returns the depths and the number of failures."""
        random = Random(seed)
        state = state_near(random, first_state(house))
        one, other = Walk(house, state), SlowWalk(house, state)
        depths = []
        calls = calls_of(house) + [("call", "bank", "r", 0)]
        for _ in range(count):
            act = random.choice(calls)
            if one.asked() > 0 and random.random() < 0.6:
                act = ("answer", random.randint(0, one.asked()))
            elif random.random() < 0.1:
                act = act[:3] + (act[3] + random.choice((-1, 1)),)
            self.check_act(one, other, act, seed)
            depths.append(one.depth())
        return max(depths), one.failed

    def test_small_houses(self):
        told = [self.check_walk(small_house(seed), seed, 40) for seed in range(500)]
        self.assertGreater(len([depth for depth, _ in told if depth > 2]), 50)
        self.assertGreater(len([failed for _, failed in told if failed > 2]), 50)

    def test_large_houses(self):
        told = [self.check_walk(read_house(Maker(seed).house()), seed, 30) for seed in range(300)]
        self.assertGreater(len([failed for _, failed in told if failed > 2]), 50)

    def test_beginnings(self):
        for seed in range(200):
            house = read_house(Maker(seed).house())
            self.assertEqual(first_state(house), beginning(house))

    def test_walks_stay_within_reach(self):
        for seed, house, rows in searched(range(200)):
            random = Random(seed)
            doing = Walk(house)
            calls = calls_of(house)
            for _ in range(30 if calls else 0):
                if doing.asked() > 0 and random.random() < 0.5:
                    doing.act(("answer", random.randrange(doing.asked())))
                else:
                    doing.act(random.choice(calls))
                if doing.depth() == 0:
                    self.assertIn(doing.state, rows[first_state(house)], seed)


class RowsTest(unittest.TestCase):
    def test_rows(self):
        larger = 0
        for seed, house, expected in searched(range(350)):
            pairs = least_rows(house)
            self.assertEqual({state: set(row) for state, row in pairs}, expected, seed)
            self.assertEqual(len(pairs), len(expected), seed)
            self.assertEqual(sum(len(row) for _, row in pairs), sum(len(row) for row in expected.values()), seed)
            self.assertEqual(pairs[0][0], first_state(house))
            self.assertEqual(set(reachable(house)), expected[first_state(house)], seed)
            self.assertEqual(reachable(house)[0], first_state(house))
            larger += len(expected) > 2
        self.assertGreater(larger, 40)

    def check_limits(self, house, states, ways, what):
        """What is raised with these limits in the place of 200 and 2000."""
        with patch.object(search, "MOST_STATES", states), patch.object(search, "MOST_WAYS", ways):
            raised = None
            try:
                least_rows(house)
            except TooLarge as error:
                raised = error.what
            self.assertEqual(raised, what)

    def test_limits(self):
        for _, house, rows in searched(range(1000, 1250)):
            states = len(set().union(*rows.values()))
            calls = [(state, call) for state in set().union(*rows.values()) for call in calls_of(house)]
            ways = max([len(ways_of(house, state, call, rows.__getitem__)) for state, call in calls], default=1)
            self.check_limits(house, states, ways, None)
            self.check_limits(house, states - 1, ways, "states")
            if ways > 1:
                self.check_limits(house, states, ways - 1, "ways")
                with patch.object(judge, "MOST_WAYS", ways - 1):
                    self.assertIs(is_closed(house, least_rows(house)), False)
            with patch.object(judge, "MOST_WAYS", ways):
                self.assertIs(is_closed(house, least_rows(house)), True)


class JudgeTest(unittest.TestCase):
    def changed(self, random, pairs, states):
        """Some rows with one change."""
        pairs = [(state, list(row)) for state, row in pairs]
        kind = random.randrange(5)
        if kind == 0:
            pairs.pop(random.randrange(len(pairs)))
        elif kind == 1:
            row = random.choice(pairs)[1]
            row.pop(random.randrange(len(row)))
        elif kind == 2:
            random.choice(pairs)[1].append(random.choice(states))
        elif kind == 3:
            state = random.choice(states)
            row = [state] + random.sample(states, random.randint(0, len(states)))
            pairs.insert(random.randint(0, len(pairs)), (state, row))
        else:
            pairs = [(state, list(states)) for state in states]
        return pairs

    def test_changed_rows(self):
        counts = {True: 0, False: 0}
        for seed, house, rows in searched(range(2000, 2150)):
            random = Random(seed)
            states = sorted(set().union(*rows.values()))
            prices = [random.randint(0, 3) for _ in house.assets]
            for _ in range(6):
                pairs = self.changed(random, least_rows(house), states)
                closed = slow_closed(house, pairs)
                counts[closed] += 1
                self.assertIs(is_closed(house, pairs), closed, (seed, pairs))
                expected = None
                if closed:
                    row = [row for state, row in pairs if state == first_state(house)][0]
                    expected = max(worth(state, prices) for state in row)
                self.assertEqual(bound(house, pairs, prices), expected, (seed, pairs))
        self.assertGreater(min(counts.values()), 150)


if __name__ == "__main__":
    unittest.main()
