"""Points 11 and 12: acts of outsiders, failures, and acts that cannot be done."""

import unittest

from nestcall.house import read_house
from nestcall.walk import Walk, walk
from tests.acting import ActChecks, answer, bad_at, call, done, first_of, seen

# Each procedure writes what it does into x, the digits one after the other.
LOG = (
    "contract bank var x 65535 0 var a 9 0"
    " proc one 4 shown set x + * x 10 given end"
    " proc query 5 shown ask a 4 set x + * x 10 + a given end"
    " proc fail 1 shown set x + * x 10 9 need 0 end"
    " proc late 2 shown set x + * x 10 8 ask a 3 need a set x + * x 10 a end end"
)

# A procedure that fails in a called one, before or behind the question that this one asks.
NESTED = (
    "asset gold 3 contract fund var a 4 0 hold gold 5"
    " proc low 4 hidden give gold 1 need < given 3 ask a 4 need a end end"
    " contract bank var x 9 0 hold gold 2 proc p 4 shown set x + x 1 call fund low given get gold 1 end"
    " proc step 1 shown set x + x 2 end end"
)


def log_of(doing):
    return doing.state[0][0][0]


class CallsTest(unittest.TestCase):
    def test_one_behind_the_other(self):
        doing = done(LOG, call("one", 3), call("one", 1), call("one", 2))
        self.assertEqual((log_of(doing), doing.acts, doing.depth()), (312, 3, 0))

    def test_while_a_question_is_open(self):
        doing = done(LOG, call("one", 3), call("query", 4), call("one", 1), call("one", 2))
        self.assertEqual((log_of(doing), doing.depth(), doing.asked()), (312, 1, 4))
        doing.act(answer(2))
        self.assertEqual((log_of(doing), doing.depth(), doing.asked()), (3126, 0, 0))
        doing.act(call("one", 3))
        self.assertEqual((log_of(doing), doing.acts, doing.failed), (31263, 6, 0))

    def test_last_asked_first_answered(self):
        acts = [call("query", 0), call("query", 1), call("query", 2)]
        doing = done(LOG, *acts)
        self.assertEqual((doing.depth(), log_of(doing)), (3, 0))
        for number, depth, log in ((3, 2, 5), (1, 1, 52), (0, 0, 520)):
            doing.act(answer(number))
            self.assertEqual((doing.depth(), log_of(doing)), (depth, log))

    def test_calls_between_answers(self):
        acts = [call("query", 1), call("query", 2), answer(0), call("one", 3), call("query", 4), answer(3), answer(2)]
        self.assertEqual(log_of(done(LOG, *acts)), 2373)

    def test_numbers_of_answers(self):
        text = (
            "contract bank var a 9 0 proc two 1 shown ask a 2 end proc five 1 shown ask a 5 ask a 7 end end")
        doing = done(text, call("two"), call("five"))
        self.assertEqual((doing.asked(), doing.depth()), (5, 2))
        doing.act(answer(4))
        self.assertEqual((doing.asked(), doing.depth()), (7, 2))
        doing.act(answer(6))
        self.assertEqual((doing.asked(), doing.depth()), (2, 1))
        doing.act(call("two"))
        self.assertEqual((doing.asked(), doing.depth()), (2, 2))

    def test_very_deep(self):
        doing = done(LOG, *[call("query", 1)] * 500)
        self.assertEqual((doing.depth(), doing.acts), (500, 500))
        for depth in range(499, -1, -1):
            doing.act(answer(0))
            self.assertEqual(doing.depth(), depth)

    def test_of_any_contract(self):
        text = (
            "contract a var x 9 0 proc p 9 shown set x given end end"
            " contract bank var x 9 0 proc p 9 shown ask x 9 end end")
        doing = done(text, call("p"), call("p", 3, "a"), answer(5), call("p", 4, "a"))
        self.assertEqual(doing.state[0], ((4,), (5,)))

    def test_the_last_number_of_a_size(self):
        text = "contract bank var x 64 0 proc p 64 shown ask x 64 end end"
        self.assertEqual(done(text, call("p", 63), answer(63)).state[0], ((63,),))


class FailuresTest(ActChecks, unittest.TestCase):
    def test_before_any_question(self):
        self.check_fails(LOG, call("fail"))

    def test_behind_a_question(self):
        self.check_fails(LOG, call("late"), answer(0))
        self.assertEqual(log_of(done(LOG, call("late"), answer(2))), 82)

    def test_back_to_the_outermost_call(self):
        """What happened before it stays, whatever happened within it is undone."""
        before = [call("one", 3), call("query", 1), answer(1)]
        failing = (
            [call("late"), answer(0)],
            [call("late"), call("one", 1), answer(0)],
            [call("query"), call("fail")],
            [call("query"), call("query", 2), call("one", 1), call("fail")],
            [call("query"), call("late"), answer(0)],
            [call("late"), call("late"), answer(2), call("one", 2), answer(0)],
            [call("late"), call("query"), answer(1), call("query"), call("query"), answer(2), call("fail")],
        )
        for acts in failing:
            doing = done(LOG, *(before + acts))
            self.assertEqual(seen(doing), (done(LOG, *before).state, 1, 3 + len(acts), 0, 0), acts)
            self.assertEqual(log_of(doing), 32)

    def test_in_a_called_procedure(self):
        self.check_fails(NESTED, call("p", 3))
        self.check_fails(NESTED, call("p", 2), answer(0))
        self.check_fails(NESTED, call("p", 2), call("step"), answer(0))
        doing = done(NESTED, call("p", 2), call("step"), answer(3))
        self.assertEqual(doing.state, (((3,), (3,)), ((4,), (3,)), (3,)))

    def test_behind_a_called_procedure(self):
        text = NESTED.replace("asset gold 3", "asset gold 0").replace("get gold 1", "get gold 2")
        self.check_fails(text, call("p", 2), answer(3))

    def test_failures_are_counted(self):
        doing = Walk(read_house(LOG))
        for count in range(1, 5):
            doing.act(call("query"))
            doing.act(call("one", 2))
            doing.act(call("fail"))
            self.assertEqual(seen(doing), (first_of(LOG), count, 3 * count, 0, 0))

    def test_no_question_is_open_then(self):
        doing = done(LOG, call("query"), call("query"), call("fail"))
        self.check_bad(doing, answer(0))
        doing.act(call("one", 1))
        self.assertEqual((log_of(doing), doing.depth()), (1, 0))

    def test_the_next_call_is_an_outermost_one(self):
        doing = done(LOG, call("query"), call("fail"), call("one", 2), call("query"), call("one", 3), call("fail"))
        self.assertEqual((log_of(doing), doing.failed, doing.acts), (2, 2, 6))

    def test_payments_are_undone(self):
        text = (
            "asset gold 5 contract fund end contract bank var a 2 0 hold gold 7"
            " proc p 9 shown give gold given ask a 2 get gold 2 move fund gold 1 need a end end")
        self.check_fails(text, call("p", 3), call("p", 1), answer(1), answer(0))
        self.assertEqual(done(text, call("p", 3), answer(1)).state[1:], (((1,), (5,)), (6,)))


class BadActsTest(ActChecks, unittest.TestCase):
    TEXT = (
        "contract bank var x 9 0 proc p 3 shown ask x 5 end proc low 2 hidden set x 1 end proc one 1 shown end end"
        " contract fund proc only 2 shown end end")

    def each_place(self):
        """Walks with no question open, with one, with two, and behind a failure."""
        yield done(self.TEXT)
        yield done(self.TEXT, call("p", 2))
        yield done(self.TEXT, call("p", 0), call("p", 1))
        yield done(self.TEXT, call("one"), call("p", 0), answer(3))

    def test_unknown_contract(self):
        for doing in self.each_place():
            for name in ("nobody", "p", "x", "", "Bank"):
                self.check_bad(doing, call("p", 0, name))

    def test_unknown_procedure(self):
        for doing in self.each_place():
            for name in ("q", "bank", "x", "", "only"):
                self.check_bad(doing, call(name))
            self.check_bad(doing, call("p", 0, "fund"))

    def test_hidden_procedure(self):
        for doing in self.each_place():
            for number in (0, 1, 2):
                self.check_bad(doing, call("low", number))

    def test_numbers_of_calls(self):
        for doing in self.each_place():
            for number in (-1, 3, 4, 64, -3, 10 ** 9):
                self.check_bad(doing, call("p", number))
            for number in (0, 1, 2):
                self.check_can(doing, call("p", number))
            self.check_bad(doing, call("one", 1))
            self.check_can(doing, call("one", 0))
            self.check_can(doing, call("only", 1, "fund"))

    def test_answers_without_a_question(self):
        for acts in ([], [call("one")], [call("p"), answer(4)]):
            for number in (-1, 0, 1, 4, 5):
                self.check_bad(done(self.TEXT, *acts), answer(number))

    def test_numbers_of_answers(self):
        for acts in ([call("p")], [call("p"), call("p")], [call("p"), call("one")]):
            doing = done(self.TEXT, *acts)
            for number in (-1, 5, 6, 64, -5, 10 ** 9):
                self.check_bad(doing, answer(number))
            for number in (0, 1, 4):
                self.check_can(doing, answer(number))

    def test_more_answers_than_values(self):
        doing = done("contract bank var x 2 0 proc p 1 shown ask x 7 end end", call("p"))
        self.check_can(doing, answer(6))
        self.check_bad(doing, answer(7))

    def test_an_empty_house(self):
        doing = done("")
        self.check_bad(doing, call("p"))
        self.check_bad(doing, answer(0))

    def test_at_counts_failures_too(self):
        doing = done(LOG, call("fail"), call("one", 1), call("query"), call("fail"))
        self.assertEqual(bad_at(doing.act, answer(0)), 4)
        self.assertEqual(bad_at(doing.act, call("nothing")), 4)
        doing.act(call("one", 1))
        self.assertEqual(bad_at(doing.act, answer(0)), 5)

    def test_going_on_behind_a_bad_act(self):
        doing = done(LOG, call("query", 1))
        self.check_bad(doing, answer(4))
        self.check_bad(doing, call("one", 4))
        doing.act(answer(3))
        self.assertEqual((log_of(doing), doing.acts), (4, 2))

    def test_walk(self):
        house = read_house(LOG)
        good = [call("one", 1), call("query"), call("fail"), call("query"), answer(3)]
        self.assertIsNone(bad_at(walk, house, good))
        for at in range(len(good) + 1):
            for act in (call("one", 4), call("zero"), answer(-1)):
                self.assertEqual(bad_at(walk, house, good[:at] + [act] + good[at:]), at)
        self.assertEqual(bad_at(walk, house, good + [answer(0), call("zero")]), 5)


if __name__ == "__main__":
    unittest.main()
