"""The class Walk and the function walk."""

import unittest

from nestcall.house import read_house
from nestcall.state import first_state
from nestcall.walk import Walk, walk
from tests.acting import answer, bad_at, call, seen

TEXT = (
    "asset gold 2 contract bank var x 9 0 hold gold 5"
    " proc draw 4 shown need < given + have gold 1 give gold given ask x 3 set x + * x 2 given end"
    " proc put 3 shown get gold given end end"
)
ACTS = [
    call("draw", 1), call("put", 2), answer(2), call("draw", 3), call("draw", 2), answer(1), call("put", 0), answer(0),
    call("draw", 2), call("draw", 1), call("draw", 1), answer(1), call("draw", 3),
]


def stateful(x, held, out):
    return ((x,),), ((held,),), (out,)


# State, failures, acts, answers allowed and open questions: at first and behind each act.
SEEN = [
    (stateful(0, 5, 2), 0, 0, 0, 0),
    (stateful(0, 4, 3), 0, 1, 3, 1),
    (stateful(0, 6, 1), 0, 2, 3, 1),
    (stateful(5, 6, 1), 0, 3, 0, 0),
    (stateful(5, 3, 4), 0, 4, 3, 1),
    (stateful(5, 1, 6), 0, 5, 3, 2),
    (stateful(4, 1, 6), 0, 6, 3, 1),
    (stateful(4, 1, 6), 0, 7, 3, 1),
    (stateful(3, 1, 6), 0, 8, 0, 0),
    (stateful(3, 1, 6), 1, 9, 0, 0),
    (stateful(3, 0, 7), 1, 10, 3, 1),
    (stateful(3, 1, 6), 2, 11, 0, 0),
]


class WalkTest(unittest.TestCase):
    def test_behind_every_act(self):
        doing = Walk(read_house(TEXT))
        self.assertEqual(seen(doing), SEEN[0])
        for act, expected in zip(ACTS, SEEN[1:]):
            self.assertIs(doing.can(act), True)
            self.assertIsNone(doing.act(act))
            self.assertEqual(seen(doing), expected, act)

    def test_walk(self):
        house = read_house(TEXT)
        for count, expected in enumerate(SEEN):
            self.assertEqual(seen(walk(house, ACTS[:count])), expected)
        self.assertEqual(bad_at(walk, house, ACTS), 11)

    def test_walk_twice(self):
        house = read_house(TEXT)
        acts = ACTS[:7]
        first = walk(house, acts)
        second = walk(house, acts)
        self.assertIsInstance(first, Walk)
        self.assertIsNot(first, second)
        self.assertEqual(seen(first), seen(second))
        first.act(answer(0))
        self.assertEqual(seen(second), SEEN[7])
        self.assertEqual(acts, ACTS[:7])
        self.assertEqual(house, read_house(TEXT))

    def test_two_walks_in_turn(self):
        house = read_house(TEXT)
        one, other = Walk(house), Walk(house)
        for at in range(11):
            one.act(ACTS[at])
            self.assertEqual(seen(other), SEEN[at])
            other.act(ACTS[at])
            self.assertEqual(seen(one), SEEN[at + 1])
        self.assertEqual(seen(one), seen(other))

    def test_two_different_walks(self):
        house = read_house(TEXT)
        one, other = Walk(house), Walk(house)
        one.act(call("draw", 1))
        other.act(call("draw", 3))
        one.act(call("put", 2))
        other.act(answer(2))
        self.assertEqual(seen(one), SEEN[2])
        self.assertEqual(seen(other), (stateful(7, 2, 5), 0, 2, 0, 0))
        one.act(call("draw", 0))
        other.act(call("draw", 3))
        self.assertEqual(seen(one), (stateful(0, 6, 1), 0, 3, 3, 2))
        self.assertEqual(seen(other), (stateful(7, 2, 5), 1, 3, 0, 0))

    def test_from_a_given_state(self):
        house = read_house(TEXT)
        given = stateful(8, 1, 70000)
        doing = Walk(house, given)
        self.assertEqual(seen(doing), (given, 0, 0, 0, 0))
        doing.act(call("draw", 1))
        self.assertEqual(seen(doing), (stateful(8, 0, 70001), 0, 1, 3, 1))
        doing.act(call("draw", 1))
        self.assertEqual(seen(doing), (given, 1, 2, 0, 0))
        self.assertEqual(bad_at(doing.act, answer(0)), 2)
        self.assertEqual(given, stateful(8, 1, 70000))
        self.assertEqual(seen(Walk(house, state=given)), (given, 0, 0, 0, 0))

    def test_from_the_state_of_another_walk(self):
        house = read_house(TEXT)
        one = walk(house, ACTS[:3])
        other = Walk(house, one.state)
        other.act(call("put", 1))
        self.assertEqual(seen(one), SEEN[3])
        self.assertEqual(seen(other), (stateful(5, 7, 0), 0, 1, 0, 0))

    def test_from_the_beginning(self):
        house = read_house(TEXT)
        self.assertEqual(seen(Walk(house, None)), seen(Walk(house)))
        self.assertEqual(seen(Walk(house, first_state(house))), seen(walk(house, [])))

    def test_asking_changes_nothing(self):
        doing = walk(read_house(TEXT), ACTS[:5])
        for _ in range(3):
            self.assertIs(doing.can(answer(2)), True)
            self.assertIs(doing.can(answer(3)), False)
            self.assertIs(doing.can(call("draw", 3)), True)
            self.assertEqual((doing.asked(), doing.depth()), (3, 2))
        self.assertEqual(seen(doing), SEEN[5])

    def test_kinds(self):
        doing = walk(read_house(TEXT), ACTS[:2])
        self.assertEqual([type(part) for part in seen(doing)], [tuple, int, int, int, int])
        self.assertIs(type(Walk(read_house(TEXT)).asked()), int)


if __name__ == "__main__":
    unittest.main()
