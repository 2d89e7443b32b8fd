"""Point 10: the statements of a procedure as it runs."""

import unittest

from tests.acting import ActChecks, answer, call, done

HEAD = (
    "asset gold 6 asset iron 0 contract fund var f 9 0 hold gold 2 end"
    " contract bank var x 5 0 var y 9 0 hold gold 4 "
)


class SetTest(ActChecks, unittest.TestCase):
    def test_modulo_the_size(self):
        text = "contract bank var x 5 2 proc p 64 shown set x given end end"
        for number in (0, 1, 4, 5, 6, 10, 63):
            self.check_done(text, [call("p", number)], ((number % 5,),))

    def test_size_of_one(self):
        self.check_done("contract bank var x 1 0 proc p 9 shown set x given end end", [call("p", 8)], ((0,),))

    def test_the_value_is_modulo_before_the_variable(self):
        text = "contract bank var x 65535 5 proc p 1 shown set x {} end end"
        self.check_done(text.format("+ 65535 2"), [call("p")], ((1,),))
        self.check_done(text.format("65535"), [call("p")], ((0,),))
        self.check_done(text.format("65534"), [call("p")], ((65534,),))

    def test_in_order(self):
        text = "contract bank var x 9 1 var y 9 2 proc p 1 shown set x + x y set y x set x + x y end end"
        self.check_done(text, [call("p")], ((6, 3),))


class NeedTest(ActChecks, unittest.TestCase):
    def test_zero_and_others(self):
        text = "contract bank var x 9 1 proc p 64 shown set x 3 need given set x + x 4 end end"
        self.check_fails(text, call("p", 0))
        for number in (1, 2, 63):
            self.check_done(text, [call("p", number)], ((7,),))


class PayTest(ActChecks, unittest.TestCase):
    def check_payments(self, statement, most, after):
        """Up to `most` can be paid; `after` gives the amounts of gold of the fund, the bank and the outsiders."""
        text = HEAD + f"proc p 64 shown {statement} given end end"
        for number in range(most + 1):
            fund, bank, out = after(number)
            state = done(text, call("p", number)).state
            self.assertEqual(state, (((0,), (0, 0)), ((fund, 0), (bank, 0)), (out, 0)))
        for number in (most + 1, most + 2, 63):
            self.check_fails(text, call("p", number))

    def test_give(self):
        self.check_payments("give gold", 4, lambda n: (2, 4 - n, 6 + n))

    def test_get(self):
        self.check_payments("get gold", 6, lambda n: (2, 4 + n, 6 - n))

    def test_move(self):
        self.check_payments("move fund gold", 4, lambda n: (2 + n, 4 - n, 6))

    def test_what_nobody_has(self):
        for statement in ("give iron", "get iron", "move fund iron"):
            self.check_payments(statement, 0, lambda n: (2, 4, 6))

    def test_large_amounts(self):
        """Amounts above 65535 are kept in full, though no value tells them."""
        text = (
            "asset gold 65535 contract fund hold gold 65535 end contract bank hold gold 65535"
            " proc all 1 shown get gold out gold end proc back 1 shown give gold have gold end"
            " proc pass 1 shown move fund gold have gold end end")
        self.assertEqual(done(text, call("all")).state[1:], (((65535,), (131070,)), (0,)))
        self.assertEqual(done(text, call("all"), call("back")).state[1:], (((65535,), (65535,)), (65535,)))
        self.assertEqual(done(text, call("all"), call("pass")).state[1:], (((131070,), (65535,)), (0,)))
        self.assertEqual(done(text, call("back"), call("back")).state[1:], (((65535,), (0,)), (131070,)))
        self.assertEqual(done(text, call("back"), call("all")).state[1:], (((65535,), (65535,)), (65535,)))

    def test_the_right_asset(self):
        text = (
            "asset gold 1 asset iron 2 asset wood 3 contract fund end contract bank hold wood 4 hold iron 5"
            " proc pay 9 shown give iron given end proc take 9 shown get wood given end"
            " proc pass 9 shown move fund wood given end end")
        self.assertEqual(done(text, call("pay", 3)).state[1:], (((0, 0, 0), (0, 2, 4)), (1, 5, 3)))
        self.assertEqual(done(text, call("take", 2)).state[1:], (((0, 0, 0), (0, 5, 6)), (1, 2, 1)))
        self.assertEqual(done(text, call("pass", 4)).state[1:], (((0, 0, 4), (0, 5, 0)), (1, 2, 3)))

    def test_the_right_contract(self):
        text = (
            "asset gold 0 contract a end contract b end contract c end contract bank hold gold 9"
            " proc p 9 shown move a gold 1 move b gold 2 move c gold 3 end end")
        self.assertEqual(done(text, call("p")).state[1], ((1,), (2,), (3,), (3,)))

    def test_paid_twice(self):
        text = HEAD + "proc p 9 shown give gold given give gold given end end"
        self.assertEqual(done(text, call("p", 2)).state[2], (10, 0))
        self.check_fails(text, call("p", 3))


class IfTest(ActChecks, unittest.TestCase):
    def test_without_else(self):
        text = (
            "contract bank var x 99 0 proc p 9 shown set x + x 1"
            " if given set x + x 10 set x + x 20 end set x + x 2 end end")
        self.check_done(text, [call("p", 0)], ((3,),))
        for number in (1, 2, 8):
            self.check_done(text, [call("p", number)], ((33,),))

    def test_with_else(self):
        text = (
            "contract bank var x 99 0 proc p 9 shown"
            " if given set x + x 1 else set x + x 10 set x + x 20 end set x + x 2 end end")
        self.check_done(text, [call("p", 0)], ((32,),))
        self.check_done(text, [call("p", 5)], ((3,),))

    def test_empty_first_block(self):
        text = "contract bank var x 99 0 proc p 9 shown if given end if given else set x 7 end set x + x 1 end end"
        self.check_done(text, [call("p", 0)], ((8,),))
        self.check_done(text, [call("p", 1)], ((1,),))

    def test_nested(self):
        text = (
            "contract bank var x 999 0 proc p 9 shown if < given 4 if < given 2 if given set x 1 else set x 2 end"
            " else if = given 2 set x 3 end end set x + x 10 else if < given 6 else set x 4 end set x + x 20 end"
            " set x + x 100 end end")
        expected = (112, 111, 113, 110, 120, 120, 124, 124, 124)
        for number, value in enumerate(expected):
            self.check_done(text, [call("p", number)], ((value,),))

    def test_six_deep(self):
        text = (
            "contract bank var x 99 0 proc p 9 shown if < 0 given if < 1 given if < 2 given if < 3 given if < 4 given"
            " if < 5 given set x + x 1 end set x + x 1 end set x + x 1 end set x + x 1 end set x + x 1 end"
            " set x + x 1 end set x + x 1 end end")
        for number in range(9):
            self.check_done(text, [call("p", number)], ((min(number, 6) + 1,),))

    def test_the_test_is_read_once(self):
        text = "contract bank var x 9 0 proc p 1 shown if = x 0 set x 1 else set x 5 end end end"
        self.check_done(text, [call("p")], ((1,),))
        self.check_done(text, [call("p"), call("p")], ((5,),))

    def test_questions_within(self):
        text = (
            "contract bank var x 9 0 var y 99 0 proc p 2 shown if given ask x 5 if x set y + y 1 ask x 6"
            " else set y 7 end set y + y 10 else set y 3 end set y + y 20 end end")
        self.check_done(text, [call("p", 0)], ((0, 23),))
        self.check_done(text, [call("p", 1), answer(0)], ((0, 37),))
        self.check_done(text, [call("p", 1), answer(3), answer(4)], ((4, 31),))


class CallTest(ActChecks, unittest.TestCase):
    def test_modulo_the_size_of_the_procedure(self):
        text = (
            "contract bank var x 99 0 proc low 5 hidden set x + * x 10 given end"
            " proc p 64 shown call bank low given set x + x given end end")
        for number in (0, 1, 4, 5, 6, 27):
            self.check_done(text, [call("p", number)], ((number % 5 + number,),))

    def test_another_contract(self):
        text = (
            "asset gold 3 contract fund var x 9 1 hold gold 4"
            " proc pay 9 shown give gold given set x + x have gold end end"
            " contract bank var x 9 2 hold gold 8"
            " proc p 9 shown set x 5 call fund pay given set x + x have gold end end")
        state = done(text, call("p", 3)).state
        self.assertEqual(state, (((2,), (13 % 9,)), ((1,), (8,)), (6,)))
        self.check_fails(text, call("p", 5))

    def test_called_twice(self):
        text = (
            "contract bank var x 999 0 proc low 9 hidden set x + * x 10 given end"
            " proc p 9 shown call bank low given call bank low + given 1 if x call bank low 3 end end end")
        self.check_done(text, [call("p", 4)], ((453,),))

    def test_shown_and_hidden(self):
        for sight in ("shown", "hidden"):
            text = (
                f"contract bank var x 9 0 proc low 9 {sight} set x given end"
                " proc p 9 shown call bank low given end end")
            self.check_done(text, [call("p", 4)], ((4,),))

    def test_of_another_contract_with_the_same_names(self):
        text = (
            "contract a var x 9 0 proc p 9 shown set x 1 end end contract b var x 9 0 proc p 9 shown set x 2 end end"
            " contract bank var x 9 0 proc p 9 shown set x 3 end proc q 1 shown call b p 0 end end")
        self.check_done(text, [call("q")], ((0,), (2,), (0,)))

    def test_called_procedure_asks(self):
        text = (
            "contract fund var x 9 0 proc low 4 hidden ask x 9 set x + x given end end"
            " contract bank var y 99 0 proc p 9 shown set y 1 call fund low given set y + y given call fund low 1"
            " set y * y 2 end end")
        asking = done(text, call("p", 6))
        self.assertEqual((asking.state[0], asking.asked(), asking.depth()), (((0,), (1,)), 9, 1))
        asking.act(answer(5))
        self.assertEqual((asking.state[0], asking.asked(), asking.depth()), (((7,), (7,)), 9, 1))
        asking.act(answer(8))
        self.assertEqual((asking.state[0], asking.asked(), asking.depth()), (((0,), (14,)), 0, 0))

    def test_failure_in_the_called_procedure(self):
        text = (
            "contract bank var x 9 3 proc low 2 hidden set x 5 need given end"
            " proc p 2 shown set x 4 call bank low given set x 6 end end")
        self.check_fails(text, call("p", 0))
        self.check_done(text, [call("p", 1)], ((6,),))


class AskTest(ActChecks, unittest.TestCase):
    def test_modulo_the_size_of_the_variable(self):
        text = "contract bank var x 5 3 var y 99 0 proc p 1 shown ask x 64 set y + x 1 end end"
        for number in (0, 1, 4, 5, 9, 63):
            self.check_done(text, [call("p"), answer(number)], ((number % 5, number % 5 + 1),))

    def test_the_variable_keeps_its_value_until_the_answer(self):
        text = "contract bank var x 5 3 proc p 1 shown ask x 4 end proc see 1 shown set x + x 1 end end"
        asking = done(text, call("p"))
        self.assertEqual(asking.state, first_values(3))
        asking.act(call("see"))
        self.assertEqual((asking.state, asking.depth()), (first_values(4), 1))
        asking.act(answer(2))
        self.assertEqual((asking.state, asking.depth()), (first_values(2), 0))

    def test_fewer_answers_than_values(self):
        text = "contract bank var x 64 3 proc p 1 shown ask x 2 end end"
        self.assertEqual(done(text, call("p")).asked(), 2)
        self.check_done(text, [call("p"), answer(1)], ((1,),))

    def test_several_in_turn(self):
        text = "contract bank var x 9 0 var y 9 0 proc p 1 shown ask x 3 ask y 5 ask x 2 end end"
        asking = done(text, call("p"))
        numbers = []
        for number in (2, 4, 1):
            numbers.append((asking.asked(), asking.depth()))
            asking.act(answer(number))
        self.assertEqual(numbers, [(3, 1), (5, 1), (2, 1)])
        self.assertEqual((asking.state, asking.depth()), ((((1, 4),), ((),), ()), 0))

    def test_given_behind_a_question(self):
        text = "contract bank var x 9 0 proc p 9 shown ask x 3 set x + * x 2 given end end"
        acts = [call("p", 4), call("p", 1), answer(2), answer(1)]
        self.check_done(text, acts, ((6,),))


def first_values(value):
    return ((value,),), ((),), ()


class EmptyTest(ActChecks, unittest.TestCase):
    def test_no_statements(self):
        self.check_done("contract bank var x 3 1 proc p 2 shown end end", [call("p", 1), call("p", 0)], ((1,),))


if __name__ == "__main__":
    unittest.main()
