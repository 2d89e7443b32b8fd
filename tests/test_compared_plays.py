"""Points 14, 15, 18 and 21: small houses made at random, compared with tests/reference.py."""

import unittest
from random import Random

from nestcall.errors import TooLarge
from nestcall.house import read_house
from nestcall.judge import bound
from nestcall.most import best_play, most, play_to
from nestcall.outsider import acts_of, outsider_of
from nestcall.paper import paper_lines, read_paper
from nestcall.search import least_rows, reachable
from nestcall.state import first_state, worth
from nestcall.walk import walk
from tests.reference import TooMuch, slow_lengths, slow_rows
from tests.small import SmallMaker


def measured(seeds):
    """Small houses with the lengths of shortest plays, where these are found soon."""
    for seed in seeds:
        house = read_house(SmallMaker(seed).house())
        try:
            rows = slow_rows(house, 30, 60)
        except TooMuch:
            continue
        yield seed, house, rows, slow_lengths(house, rows)[first_state(house)]


class PlaysTest(unittest.TestCase):
    def check_plays(self, seed, house, rows, lengths):
        """A shortest play to each state has the expected length, and leads there; returns the greatest one."""
        for state in set().union(*rows.values()):
            play = play_to(house, state)
            if state not in lengths:
                self.assertIsNone(play, seed)
                continue
            self.assertEqual(len(play), lengths[state], seed)
            doing = walk(house, play)
            self.assertEqual((doing.state, doing.failed, doing.depth()), (state, 0, 0), seed)
            if len(play) <= 40:
                self.assertEqual(acts_of(house, outsider_of(play), len(play)), play)
        return max(lengths.values())

    def test_plays(self):
        longest = [self.check_plays(*found) for found in measured(range(5000, 5300))]
        self.assertGreater(len([length for length in longest if length > 3]), 20)
        self.assertGreater(max(longest), 7)

    def test_best_plays(self):
        for seed, house, rows, lengths in measured(range(6000, 6120)):
            random = Random(seed)
            for _ in range(3):
                prices = [random.choice((0, 1, 2, 100)) for _ in house.assets]
                greatest = max(worth(state, prices) for state in lengths)
                self.assertEqual(most(house, prices), greatest, seed)
                play = best_play(house, prices)
                doing = walk(house, play)
                self.assertEqual((worth(doing.state, prices), doing.failed, doing.depth()), (greatest, 0, 0), seed)
                self.assertEqual(len(play), min(lengths[state] for state in lengths if worth(state, prices) == greatest))


class CertificateTest(unittest.TestCase):
    def test_written_rows_bound_the_most(self):
        """Rows that were written and read again are closed, and bound just the most."""
        tried = 0
        for seed in range(7000, 7300):
            house = read_house(SmallMaker(seed).house())
            prices = [seed % 3, 1][:len(house.assets)]
            try:
                rows = least_rows(house)
            except TooLarge:
                continue
            again = read_paper(house, paper_lines(rows))
            self.assertEqual(again, rows)
            self.assertEqual(bound(house, again, prices), most(house, prices))
            self.assertEqual(max(worth(state, prices) for state in reachable(house)), most(house, prices))
            tried += 1
        self.assertGreater(tried, 250)


if __name__ == "__main__":
    unittest.main()
