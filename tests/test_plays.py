"""Points 15 and 16: shortest plays, and what is too large for them."""

import unittest

from nestcall.errors import TooLarge
from nestcall.house import read_house
from nestcall.most import best_play, most, play_to
from nestcall.search import least_rows, reachable
from nestcall.state import worth
from nestcall.walk import walk
from tests.acting import answer, call
from tests.test_limits import LOCKED
from tests.test_rows import OPEN_BANK, SAFE_BANK, bank, values

# Each call of step takes 25 acts: itself, and 24 answers, while nothing else can be called.
STEPS = (
    "contract bank var lock 2 0 var x 50 0 var z 1 0 proc low 1 hidden " + "ask z 1 " * 6 + "end"
    " proc step 1 shown need = lock 0 set lock 1 " + "call bank low 0 " * 4 + "set lock 0 set x + x 1 need x end"
    " proc last 1 shown need = lock 0 need = + x 1 {} set x + x 1 end end"
)
# The same, with a prize for those who come far enough.
PRIZE = (
    "asset gold 0 contract bank var lock 2 0 var x 50 0 var z 1 0 hold gold 1 proc low 1 hidden " + "ask z 1 " * 6
    + "end proc step 1 shown need = lock 0 set lock 1 " + "call bank low 0 " * 4
    + "set lock 0 set x + x 1 need x end proc prize 1 shown need = lock 0 need = x {} give gold 1 end end"
)
# To be done one level higher takes two questions, within each of which the next level must be done.
LEVELS = (
    "contract bank var level {} 0 var done 2 0 var z 1 0"
    " proc deeper 1 shown need < level {} set level + level 1 set done 0 ask z 1 need done set done 0 ask z 1"
    " need done set level - level 1 end"
    " proc work 1 shown need = level {} set done 1 end end"
)


def levels(count):
    return read_house(LEVELS.format(count + 1, count, count))


def what_of(asking, *arguments):
    """The attribute `what` of the TooLarge that a function raises, or None."""
    try:
        asking(*arguments)
    except TooLarge as error:
        return error.what
    return None


class PlayChecks:
    """Checks of plays, for test cases."""

    def check_leads(self, house, play, state):
        """A list of acts leads to a state, with no question open and no failure."""
        self.assertIs(type(play), list)
        doing = walk(house, play)
        self.assertEqual((doing.state, doing.failed, doing.depth(), doing.asked()), (state, 0, 0, 0), play)
        self.assertEqual(doing.acts, len(play))

    def check_length(self, text, state, length):
        """A shortest play to a state has so many acts."""
        house = read_house(text)
        play = play_to(house, state)
        self.check_leads(house, play, state)
        self.assertEqual(len(play), length, play)
        self.assertEqual(house, read_house(text))

    def check_none(self, text, state):
        self.assertIsNone(play_to(read_house(text), state), state)

    def check_best(self, text, prices):
        """A play to the most, which is as short as to the nearest state with the most."""
        house = read_house(text)
        given = list(prices)
        play = best_play(house, given)
        self.assertEqual(given, list(prices))
        end = walk(house, play).state
        self.check_leads(house, play, end)
        self.assertEqual(worth(end, prices), most(house, prices))
        states = [state for state in reachable(house) if worth(state, prices) == most(house, prices)]
        self.assertEqual(len(play), min(len(play_to(house, state)) for state in states))
        return play


class PlayToTest(PlayChecks, unittest.TestCase):
    def test_the_beginning(self):
        for text in (OPEN_BANK, SAFE_BANK):
            self.check_length(text, bank(1, 3, 0), 0)
            self.assertEqual(play_to(read_house(text), bank(1, 3, 0)), [])
        self.assertEqual(play_to(read_house(""), ((), (), ())), [])
        self.check_length("contract bank var x 4 2 proc p 1 shown set x + x 1 end end", values(2), 0)

    def test_one_call(self):
        text = "contract bank var x 9 0 proc put 9 shown set x given end end"
        for number in range(1, 9):
            self.assertEqual(play_to(read_house(text), values(number)), [call("put", number)])

    def test_several_calls(self):
        text = "contract bank var x 9 2 proc step 1 shown set x + x 1 end end"
        self.assertEqual(play_to(read_house(text), values(5)), [call("step")] * 3)
        self.check_length(text, values(1), 8)

    def test_calls_of_several_contracts(self):
        text = (
            "contract bank var x 2 0 proc p 1 hidden set x 1 end proc q 1 shown need = x 1 set x 0 end end"
            " contract shop var y 3 0 proc p 1 shown call bank p 0 set y 1 end"
            " proc q 1 shown need = y 1 set y 2 end end")
        state = ((0,), (2,)), ((), ()), ()
        play = play_to(read_house(text), state)
        self.assertEqual(sorted(play), [call("q"), call("p", 0, "shop"), call("q", 0, "shop")])
        self.check_length(text, state, 3)

    def test_an_answer(self):
        text = "contract bank var x 9 8 proc p 1 shown ask x 5 end end"
        for number in range(5):
            self.assertEqual(play_to(read_house(text), values(number)), [call("p"), answer(number)])

    def test_several_answers(self):
        text = "contract bank var x 9 8 var y 9 8 proc p 1 shown need = y 8 set y 7 ask x 5 ask y 4 end end"
        self.assertEqual(play_to(read_house(text), values(3, 2)), [call("p"), answer(3), answer(2)])

    def test_calls_while_a_question_is_open(self):
        draw = call("draw")
        house = read_house(OPEN_BANK)
        for count in (1, 2, 3):
            play = play_to(house, bank(0, 3 - count, count))
            self.assertEqual(play, [draw] * count + [answer(0)] * count)
        self.check_length(SAFE_BANK, bank(0, 2, 1), 2)

    def test_calls_between_two_questions(self):
        text = (
            "contract bank var x 9 0 var z 1 0 proc p 1 shown need = x 0 set x 1 ask z 1 need = x 3 ask z 1"
            " need = x 4 set x 8 end proc step 1 shown need x need < x 5 set x + x 1 end end")
        step = call("step")
        play = [call("p"), step, step, answer(0), step, answer(0)]
        self.assertEqual(play_to(read_house(text), values(8, 0)), play)

    def test_calls_while_questions_are_open_in_each_other(self):
        """The answers of the calls that were begun last are given first."""
        text = (
            "contract bank var x 9 0 var z 1 0 proc outer 1 shown need = x 0 set x 1 ask z 1 need = x 4 set x 5 end"
            " proc inner 1 shown need = x 1 set x 2 ask z 1 need = x 3 set x 4 end"
            " proc step 1 shown need = x 2 set x 3 end end")
        play = [call("outer"), call("inner"), call("step"), answer(0), answer(0)]
        self.assertEqual(play_to(read_house(text), values(5, 0)), play)

    def test_longer_ways_found_first(self):
        procedures = [
            "proc step 1 shown set x + x 1 end", "proc jump 1 shown need = x 1 set x 7 end",
            "proc back 1 shown need = x 7 set x 5 end"]
        for order in (procedures, procedures[::-1]):
            text = "contract bank var x 9 0 " + " ".join(order) + " end"
            for number, length in enumerate((0, 1, 2, 3, 4, 3, 4, 2, 3)):
                self.check_length(text, values(number), length)

    def test_few_acts_are_better_than_few_calls(self):
        """One call with five answers, or three calls."""
        text = "contract bank var x 9 0 var y 2 0 proc a 1 shown need = y 0 {} end proc b 1 shown need = y 0 {} end end"
        long = "need = x 0 set y 1 ask y 1 set y 1 ask y 1 set y 1 ask y 1 set y 1 ask y 1 set y 0 set x {}"
        short = "set x + x 1"
        for number, length in ((3, 3), (4, 4), (5, 5), (6, 5), (7, 5)):
            self.check_length(text.format(long.format(number), short), values(number, 0), length)
            self.check_length(text.format(short, long.format(number)), values(number, 0), length)

    def test_short_ways_within_a_question(self):
        """Behind the question only x = 6 counts: six steps, or a jump and a step."""
        text = (
            "contract bank var x 9 0 var z 2 0 proc p 1 shown need = z 0 set z 1 ask z 1 need = x 6 set x 8 end"
            " proc step 1 shown need < x 7 set x + x 1 end proc jump 1 shown need = x 0 set x 5 end end")
        play = play_to(read_house(text), values(8, 0))
        self.assertEqual(len(play), 4)
        self.check_length(text, values(8, 0), 4)

    def test_a_question_must_be_answered_first(self):
        """The state is that behind the answer, or that while it is asked and behind it."""
        text = "contract bank var x 9 0 var z 1 0 proc p 1 shown set x 1 ask z 1 {} end end"
        self.check_length(text.format("set x 2"), values(2, 0), 2)
        self.check_length(text.format("set z 0"), values(1, 0), 2)
        self.check_length(text.format("set x 0"), values(0, 0), 0)

    def test_a_question_that_is_never_answered_is_no_play(self):
        """While p asks, x is 1 at once; with no question open it takes three calls."""
        text = (
            "contract bank var x 9 0 var y 9 0 var z 1 0 proc p 1 shown need = x 0 set x 1 ask z 1 set x 5 end"
            " proc step 1 shown set y + y 1 need < y 3 end proc last 1 shown need = y 2 set x 1 set y 0 end end")
        self.check_length(text, values(1, 0, 0), 3)

    def test_states_that_cannot_be_brought_about(self):
        self.check_none(SAFE_BANK, bank(0, 1, 2))
        self.check_none(OPEN_BANK, bank(1, 2, 1))
        self.check_none(OPEN_BANK, bank(0, 3, 0))
        self.check_none("contract bank var x 9 0 end", values(1))
        self.check_none("contract bank var x 9 0 proc p 9 hidden set x given end end", values(1))
        self.check_none("contract bank var x 9 0 proc p 9 shown set x given need 0 end end", values(1))

    def test_states_only_while_a_question_is_open(self):
        text = "contract bank var x 9 0 var z 1 0 proc p 1 shown need = x 0 set x 1 ask z 1 set x 2 end end"
        self.check_none(text, values(1, 0))
        self.check_length(text, values(2, 0), 2)
        self.check_none("contract bank var x 9 0 var z 1 0 proc p 1 shown set x 1 ask z 1 need 0 end end", values(1, 0))

    def test_states_left_behind_only(self):
        """While p asks, step can be called; with no question open, it cannot."""
        text = (
            "contract bank var x 9 0 var z 1 0 proc p 1 shown need = x 0 set x 1 ask z 1 set x * x 2 end"
            " proc step 1 shown need = x 1 set x 3 end end")
        self.check_none(text, values(1, 0))
        self.check_none(text, values(3, 0))
        self.check_length(text, values(2, 0), 2)
        self.check_length(text, values(6, 0), 3)

    def test_other_amounts(self):
        for state in (bank(0, 2, 2), bank(0, 3, 1), bank(1, 3, 1), bank(1, 4, 0), bank(0, 70000, 1)):
            self.check_none(OPEN_BANK, state)
        self.check_none(OPEN_BANK, ((), (), ()))

    def test_all_states(self):
        for text in (OPEN_BANK, SAFE_BANK):
            house = read_house(text)
            for state in reachable(house):
                self.check_leads(house, play_to(house, state), state)

    def test_new_lists(self):
        house = read_house(OPEN_BANK)
        play = play_to(house, bank(0, 0, 3))
        kept = list(play)
        play.clear()
        self.assertEqual(play_to(house, bank(0, 0, 3)), kept)
        best = best_play(house, [1])
        best.append("more")
        self.assertEqual(best_play(house, [1]), kept)


class BestPlayTest(PlayChecks, unittest.TestCase):
    def test_banks(self):
        self.assertEqual(len(self.check_best(OPEN_BANK, [1])), 6)
        self.assertEqual(len(self.check_best(SAFE_BANK, [3])), 2)

    def test_prices_of_zero(self):
        """All states have the most, the beginning among them."""
        self.assertEqual(self.check_best(OPEN_BANK, [0]), [])

    def test_without_contracts_or_assets(self):
        self.assertEqual(self.check_best("", []), [])
        self.assertEqual(self.check_best("asset gold 3", [2]), [])
        self.assertEqual(self.check_best("contract bank var x 3 0 proc p 1 shown set x + x 1 end end", []), [])

    def test_several_assets(self):
        text = (
            "asset gold 1 asset iron 5 contract bank hold gold 3"
            " proc swap 1 shown get iron 2 give gold 1 end end")
        lengths = [([1, 1], 0), ([1, 0], 2), ([0, 1], 0), ([3, 1], 2), ([2, 1], 0)]
        for prices, length in lengths:
            self.assertEqual(len(self.check_best(text, prices)), length, prices)

    def test_the_nearest_state_with_the_most(self):
        """Many states have the most; x = 2 and x = 6 are near."""
        text = (
            "asset gold 0 contract bank var x 9 0 hold gold 1 proc a 9 shown need < x 2 set x + x given"
            " if < 4 x need have gold give gold 1 end end proc b 1 shown need = have gold 1 give gold 1 end end")
        self.assertEqual(len(self.check_best(text, [1])), 1)


class LongPlaysTest(PlayChecks, unittest.TestCase):
    def test_exactly_so_many_acts(self):
        """40 steps of 25 acts; the last state can be reached by a single act behind 39 steps, too."""
        text = STEPS.format(99)
        self.check_length(text, values(0, 39, 0), 975)
        self.check_length(text, values(0, 40, 0), 1000)
        house = read_house(text)
        for number in (41, 42, 49):
            self.assertEqual(what_of(play_to, house, values(0, number, 0)), "acts")

    def test_one_more(self):
        text = STEPS.format(41)
        self.check_length(text, values(0, 40, 0), 1000)
        self.assertEqual(what_of(play_to, read_house(text), values(0, 41, 0)), "acts")
        text = STEPS.format(40)
        self.check_length(text, values(0, 40, 0), 976)
        self.assertEqual(what_of(play_to, read_house(text), values(0, 41, 0)), "acts")

    def test_none_where_other_plays_are_long(self):
        self.check_none(STEPS.format(41), values(1, 40, 0))

    def test_best_play(self):
        """The state with the most costs 39 * 25 + 1 acts, or 40 * 25 + 1."""
        house = read_house(PRIZE.format(39))
        play = best_play(house, [1])
        self.assertEqual((len(play), walk(house, play).state[2]), (976, (1,)))
        house = read_house(PRIZE.format(40))
        self.assertEqual(most(house, [1]), 1)
        self.assertEqual(what_of(best_play, house, [1]), "acts")
        self.assertEqual(best_play(house, [0]), [])

    def test_levels(self):
        """The length is doubled by each level: 3 more than twice that of the next one."""
        for count, length in ((0, 1), (1, 5), (2, 13), (3, 29), (7, 509)):
            house = levels(count)
            play = play_to(house, values(0, 1, 0))
            self.check_leads(house, play, values(0, 1, 0))
            self.assertEqual(len(play), length)

    def test_far_too_many_acts(self):
        """1021 acts, and some 2 to the power of 32, or of 62."""
        for count in (8, 30, 60):
            self.assertIsNone(what_of(least_rows, levels(count)))
            self.assertEqual(what_of(play_to, levels(count), values(0, 1, 0)), "acts")
            self.assertIsNone(what_of(most, levels(count), []))
            self.assertEqual(best_play(levels(count), []), [])


class TooLargeTest(unittest.TestCase):
    def check_all(self, text, state):
        """All raise what least_rows raises."""
        house = read_house(text)
        what = what_of(least_rows, house)
        prices = [1] * len(house.assets)
        for asked in ((most, house, prices), (best_play, house, prices), (play_to, house, state)):
            self.assertEqual(what_of(*asked), what, asked)
        return what

    def test_states(self):
        text = "contract bank var x {} 0 proc step 1 shown set x + x 1 end end"
        for number in (0, 1, 300):
            self.assertIsNone(self.check_all(text.format(200), values(number)))
            self.assertEqual(self.check_all(text.format(201), values(number)), "states")

    def test_ways(self):
        for state in (values(0, 0, 0), values(1, 0, 0), values(5, 5, 5)):
            self.assertIsNone(self.check_all(LOCKED.format("ask x 50 ask x 40"), state))
            self.assertEqual(self.check_all(LOCKED.format("ask x 23 ask x 29 ask x 3"), state), "ways")
            self.assertEqual(self.check_all(LOCKED.format("ask x 45 ask x 45"), state), "ways")

    def test_many_states(self):
        """Each of 200 states is one act away from the one before."""
        text = "contract bank var x 200 0 var z 1 0 proc step 1 shown ask z 10 set x + x 1 end end"
        house = read_house(text)
        play = play_to(house, values(150, 0))
        self.assertEqual((len(play), walk(house, play).state), (300, values(150, 0)))


if __name__ == "__main__":
    unittest.main()
