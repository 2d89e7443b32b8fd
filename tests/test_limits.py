"""Point 16: houses that are too large to be searched."""

import unittest

from nestcall.errors import TooLarge
from nestcall.house import read_house
from nestcall.search import least_rows, reachable

# While the lock is 1 nothing can be called, so that each row but the first one has one state.
LOCKED = "contract bank var lock 2 0 var x 1 0 var y 64 0 proc p 1 shown need = lock 0 set lock 1 {} set lock 0 end end"


def too_large(text):
    """The attribute `what` of the TooLarge that a search raises, or None."""
    house = read_house(text)
    answers = []
    for searching in (least_rows, reachable):
        try:
            searching(house)
            answers.append(None)
        except TooLarge as error:
            answers.append(error.what)
    assert answers[0] == answers[1], text
    return answers[0]


def states_in(text):
    """The number of different states in all rows."""
    return len({state for _, row in least_rows(read_house(text)) for state in row})


class StatesTest(unittest.TestCase):
    def check_limit(self, text, fits, not_any_more):
        """With one number the text has just 200 states, with the other one more."""
        self.assertIsNone(too_large(text.format(fits)))
        self.assertEqual(states_in(text.format(fits)), 200)
        self.assertEqual(too_large(text.format(not_any_more)), "states")

    def test_in_one_row(self):
        self.check_limit("contract bank var x {} 0 proc step 1 shown set x + x 1 end end", 200, 201)

    def test_by_one_call(self):
        text = (
            "contract bank var x 65535 0 proc put 64 shown set x given end proc all 64 shown set x + 64 given end"
            " proc more 64 shown set x + 128 given end proc last {} shown set x + 192 given end end")
        self.check_limit(text, 8, 9)

    def test_far_more(self):
        self.assertEqual(too_large("contract bank var x 65535 0 proc step 1 shown set x + x 1 end end"), "states")

    def test_in_all_rows_together(self):
        """Counting goes to 119; the states of the questions, in which y is 1, are in other rows."""
        text = (
            "contract bank var x 120 0 var y 2 0 var z 1 0 proc step 1 shown need = y 0 set x + x 1 end"
            " proc p 1 shown need = y 0 need < x {} set y 1 ask z 1 set y 0 end end")
        self.check_limit(text, 80, 81)
        self.assertEqual(len(reachable(read_house(text.format(80)))), 120)

    def test_states_in_several_rows_count_once(self):
        text = "contract bank var x {} 0 var z 1 0 proc step 1 shown set x + x 1 end proc p 1 shown ask z 1 end end"
        self.check_limit(text, 200, 201)

    def test_only_behind_a_question(self):
        """The beginning has one state in its row, and the row of the question the others."""
        text = (
            "contract bank var x {} 0 var z 1 0 proc p 1 shown need = x 0 set x 1 ask z 1 need 0 end"
            " proc step 1 shown need x set x + x 1 need x end end")
        self.check_limit(text, 200, 201)
        self.assertEqual(len(reachable(read_house(text.format(200)))), 1)


class WaysTest(unittest.TestCase):
    def check_ways(self, statements, what):
        self.assertEqual(too_large(LOCKED.format(statements)), what, statements)

    def test_answers(self):
        self.check_ways("ask x 50 ask x 40", None)
        self.check_ways("ask x 40 ask x 50", None)
        self.check_ways("ask x 20 ask x 10 ask x 10", None)
        self.check_ways("ask x 23 ask x 29 ask x 3", "ways")
        self.check_ways("ask x 45 ask x 45", "ways")

    def test_one_question(self):
        self.check_ways("ask x 64", None)

    def test_far_more(self):
        self.check_ways("ask x 64 " * 5 + "ask x 64", "ways")
        self.check_ways("ask y 64 " * 5 + "ask y 64", "ways")

    def test_many_questions_with_one_answer(self):
        text = (
            "contract bank var lock 2 0 var x 1 0 proc low 1 hidden " + "ask x 1 " * 6 + "end"
            " proc p 1 shown need = lock 0 set lock 1 " + "call bank low 0 " * 20 + "set lock 0 end end")
        self.assertIsNone(too_large(text))

    def test_ways_that_fail(self):
        self.check_ways("ask x 50 ask x 40 need 0", None)
        self.check_ways("ask x 23 ask x 29 ask x 3 need 0", "ways")
        # 50 times 40 ways do not fail, and one fails behind the first question.
        self.check_ways("ask y 51 need y ask x 40", "ways")
        self.check_ways("ask y 50 need y ask x 40", None)
        # 1 + 1999 ways, all but one of which fail.
        self.check_ways("ask y 64 if y ask x 31 need 0 end", None)
        self.check_ways("ask y 64 if y ask x 32 need 0 end", "ways")

    def test_different_numbers_of_ways(self):
        self.check_ways("ask y 64 if < y 31 ask x 64 end", "ways")
        # 30 * 64 + 34 = 1954, 31 * 64 + 33 = 2017, 30 * 64 + 2 * 24 + 32 = 2000.
        self.check_ways("ask y 64 if < y 30 ask x 64 end", None)
        self.check_ways("ask y 64 if < y 30 ask x 64 else if < y 32 ask x 24 end end", None)
        self.check_ways("ask y 64 if < y 30 ask x 64 else if < y 31 ask x 48 end end", "ways")

    def test_different_ways_to_one_question(self):
        """Both answers to the first question come to the last one, the second answer in more ways."""
        self.check_ways("ask y 2 if y ask x 49 end set y 0 ask x 40", None)
        self.check_ways("ask y 2 if y ask x 50 end set y 0 ask x 40", "ways")

    def test_states_left_behind(self):
        text = (
            "contract bank var x 99 0 var y 1 0 var lock 2 0"
            " proc p 1 shown need = lock 0 set x 1 set lock 1 ask y {} set x 0 set lock 0 end"
            " proc step 1 shown need lock need < x {} set x + x 1 end end")
        self.assertIsNone(too_large(text.format(40, 50)))
        self.assertIsNone(too_large(text.format(50, 40)))
        self.assertEqual(too_large(text.format(40, 51)), "ways")
        self.assertEqual(too_large(text.format(51, 40)), "ways")
        self.assertEqual(len(reachable(read_house(text.format(40, 50)))), 1)

    def test_states_left_behind_twice(self):
        text = (
            "contract bank var x 99 0 var y 1 0 var lock 2 0"
            " proc p 1 shown need = lock 0 set x 1 set lock 1 ask y {} set x 1 ask y {} set x 0 set lock 0 end"
            " proc step 1 shown need lock need < x 10 set x + x 1 end end")
        self.assertIsNone(too_large(text.format(5, 4)))
        self.assertIsNone(too_large(text.format(20, 1)))
        self.assertEqual(too_large(text.format(3, 7)), "ways")

    def test_each_call_counts_alone(self):
        text = (
            "contract bank var lock 2 0 var x 1 0 proc p 8 shown need = lock 0 set lock 1 ask x 50 ask x 40"
            " set lock 0 end proc q 1 shown need = lock 0 set lock 1 ask x 40 ask x 50 set lock 0 end end")
        self.assertIsNone(too_large(text))

    def test_one_number_of_several(self):
        self.check_ways("ask x 50 ask x 40", None)
        text = (
            "contract bank var lock 2 0 var x 1 0 proc p 8 shown need = lock 0 set lock 1 ask x 50 ask x 40"
            " if = given {} ask x 2 end set lock 0 end end")
        self.assertIsNone(too_large(text.format(8)))
        for number in (0, 3, 7):
            self.assertEqual(too_large(text.format(number)), "ways")

    def test_hidden_procedures_do_not_count(self):
        text = (
            "contract bank var lock 2 0 var x 1 0 proc p 1 {} need = lock 0 set lock 1 ask x 50 ask x 50"
            " set lock 0 end end")
        self.assertIsNone(too_large(text.format("hidden")))
        self.assertEqual(too_large(text.format("shown")), "ways")

    def test_in_a_called_procedure(self):
        text = (
            "contract bank var lock 2 0 var x 1 0 proc low 1 hidden ask x {} end proc p 1 shown need = lock 0"
            " set lock 1 call bank low 0 call bank low 0 set lock 0 end end")
        self.assertIsNone(too_large(text.format(44)))
        self.assertEqual(too_large(text.format(45)), "ways")

    def test_only_while_a_question_is_open(self):
        """The call with many ways can begin only where another one asks, which never ends without a failure."""
        text = (
            "contract bank var lock 3 0 var x 1 0 proc outer 1 shown need = lock 0 set lock 1 ask x 1 need 0 end"
            " proc p 1 shown need = lock 1 set lock 2 ask x {} ask x 40 set lock 1 end end")
        self.assertIsNone(too_large(text.format(50)))
        self.assertEqual(too_large(text.format(51)), "ways")

    def test_both(self):
        text = "contract bank var x 65535 0 var y 1 0 proc p 1 shown set x + x 1 ask y 64 ask y 64 end end"
        self.assertIn(too_large(text), ("states", "ways"))


if __name__ == "__main__":
    unittest.main()
