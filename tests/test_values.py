"""Point 9: the values of expressions in a running procedure."""

import unittest

from tests.acting import answer, call, done

HEAD = (
    "asset gold 0 asset iron 4 asset wood 65535"
    " contract other var x 9 1 hold iron 50 end"
    " contract bank var x 65535 1000 var y 10 7 var z 2 0 hold gold 65535 hold iron 5 hold wood 65535 "
)


def value_of(expression, number=0, before=""):
    """The value of an expression: what a procedure that gives so much pays."""
    text = HEAD + f"proc p 64 shown {before} give gold {expression} end end"
    return done(text.replace("  ", " "), call("p", number)).state[2][0]


class ValuesTest(unittest.TestCase):
    def check(self, expression, value, number=0, before=""):
        self.assertEqual(value_of(expression, number, before), value, expression)

    def test_numbers(self):
        for number in (0, 1, 9, 64, 65534, 65535):
            self.check(str(number), number)

    def test_variables(self):
        self.check("x", 1000)
        self.check("y", 7)
        self.check("z", 0)
        self.check("y", 9, before="set y 9")

    def test_given(self):
        for number in (0, 1, 62, 63):
            self.check("given", number, number)

    def test_have(self):
        self.check("have iron", 5)
        self.check("have gold", 65535)
        self.check("have iron", 2, before="give iron 3")
        self.check("have iron", 0, before="give iron 5")
        self.check("have iron", 9, before="get iron 4")

    def test_out(self):
        self.check("out iron", 4)
        self.check("out gold", 0)
        self.check("out iron", 9, before="give iron 5")
        self.check("out iron", 0, before="get iron 4")
        self.check("out gold", 200, before="give gold 100")

    def test_large_amounts(self):
        """The contract has 131070 of wood, or the outsiders 131070, and neither tells more than 65535."""
        self.check("have wood", 65535, before="get wood 65535")
        self.check("have wood", 65535, before="get wood 1")
        self.check("have wood", 65534, before="get wood 1 give wood 2")
        self.check("out wood", 65535, before="give wood 65535")
        self.check("out wood", 65535, before="give wood 1")
        self.check("out wood", 65534, before="give wood 1 get wood 2")
        self.check("= have wood 65535", 1, before="get wood 2")
        self.check("< 65535 out wood", 0, before="give wood 2")

    def test_plus(self):
        self.check("+ 3 4", 7)
        self.check("+ 65535 0", 65535)
        self.check("+ 65535 1", 0)
        self.check("+ 65535 65535", 65534)

    def test_minus(self):
        self.check("- 7 4", 3)
        self.check("- 4 4", 0)
        self.check("- 4 7", 0)
        self.check("- 0 65535", 0)

    def test_times(self):
        self.check("* 6 7", 42)
        self.check("* 256 256", 0)
        self.check("* 255 257", 65535)
        self.check("* 65535 65535", 1)

    def test_divided(self):
        self.check("/ 7 2", 3)
        self.check("/ 1 2", 0)
        self.check("/ 8 2", 4)
        self.check("/ 7 0", 0)
        self.check("/ 65535 1", 65535)

    def test_mod(self):
        self.check("mod 7 2", 1)
        self.check("mod 8 2", 0)
        self.check("mod 3 5", 3)
        self.check("mod 7 0", 0)
        self.check("mod 65535 256", 255)

    def test_less(self):
        self.check("< 1 2", 1)
        self.check("< 2 2", 0)
        self.check("< 3 2", 0)

    def test_equal(self):
        self.check("= 2 2", 1)
        self.check("= 1 2", 0)
        self.check("= 0 0", 1)

    def test_nested(self):
        self.check("- + x y * 2 have iron", 997)
        self.check("- * 2 have iron + x y", 0)
        self.check("+ " * 9 + "1 " * 9 + "given", 9 + 12, 12)
        self.check("mod / x 3 + y 3", 3)

    def test_values_of_the_own_contract(self):
        """Another contract has a variable of that name, and iron, too."""
        text = (
            "asset gold 0 contract a var x 9 3 hold gold 5 end contract bank var x 9 4 hold gold 7"
            " proc p 1 shown give gold x end proc q 1 shown give gold have gold end end")
        self.assertEqual(done(text, call("p")).state[2], (4,))
        self.assertEqual(done(text, call("q")).state[2], (7,))

    def test_behind_a_question(self):
        """What is read behind a question is what the calls before the answer left there."""
        text = (
            "asset gold 9 contract bank var x 9 3 var y 9 0 hold gold 20"
            " proc p 9 shown ask y 9 give gold + x * given 2 set x have gold end"
            " proc put 9 shown set x given get gold 1 end end")
        self.assertEqual(done(text, call("p", 4), answer(0)).state, (((0, 0),), ((9,),), (20,)))
        state = done(text, call("p", 1), call("put", 7), call("put", 5), answer(2)).state
        self.assertEqual(state, (((15 % 9, 2),), ((15,),), (14,)))


if __name__ == "__main__":
    unittest.main()
