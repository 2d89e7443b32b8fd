"""Points 5, 7 and 9: expressions, their words, and the values of operators."""

import unittest

from nestcall.expression import combine, expression_words
from nestcall.house import read_house
from tests.helper import OPERATORS, TextChecks

EDGES = (0, 1, 2, 3, 255, 256, 257, 32767, 32768, 65533, 65534, 65535)


def nested(depth, sign="+", leaf="1"):
    """The words of an expression of a depth, deep on its left side."""
    return " ".join([sign] * (depth - 1) + [leaf] * depth)


def right_nested(depth):
    """The words of an expression of a depth, deep on its right side."""
    return " ".join(["- 1"] * (depth - 1) + ["1"])


def house_with(words):
    """The text of a house with an expression, beside two variables and two assets."""
    return f"asset a 1 asset b 2 contract c var x 5 0 var y 6 0 proc p 1 shown need {words} end end"


def expression_of(words):
    """The data of an expression in this house."""
    return read_house(house_with(words)).contracts[0][3][0][3][0][1]


class KindsTest(TextChecks, unittest.TestCase):
    def test_leaves(self):
        self.assertEqual(expression_of("0"), ("number", 0))
        self.assertEqual(expression_of("65535"), ("number", 65535))
        self.assertEqual(expression_of("x"), ("variable", "x"))
        self.assertEqual(expression_of("y"), ("variable", "y"))
        self.assertEqual(expression_of("given"), ("given",))
        self.assertEqual(expression_of("have a"), ("have", "a"))
        self.assertEqual(expression_of("have b"), ("have", "b"))
        self.assertEqual(expression_of("out a"), ("out", "a"))
        self.assertEqual(expression_of("out b"), ("out", "b"))

    def test_operators(self):
        for sign in OPERATORS:
            self.assertEqual(expression_of(f"{sign} x given"), (sign, ("variable", "x"), ("given",)))
            self.assertEqual(expression_of(f"{sign} have a 3"), (sign, ("have", "a"), ("number", 3)))

    def test_parts_of_operators(self):
        self.assertEqual(
            expression_of("- * x 2 mod out b + y 1"),
            ("-", ("*", ("variable", "x"), ("number", 2)),
             ("mod", ("out", "b"), ("+", ("variable", "y"), ("number", 1)))))

    def test_depth(self):
        for depth in (1, 2, 9, 10):
            for sign in OPERATORS:
                self.check_accepted(house_with(nested(depth, sign)))
            self.check_accepted(house_with(right_nested(depth)))
        self.check_accepted(house_with(nested(10, "<", "given")))
        self.check_accepted(house_with(" ".join(["+"] * 9 + ["have a"] * 10)))

    def test_too_deep(self):
        before = "asset a 1 contract c proc p 1 shown need "
        for sign in OPERATORS:
            self.check_refused(before + f"{sign} " * 9 + ">" + sign)
            self.check_refused(before + f"{sign} " * 9 + ">" + sign + " 1" * 11 + " end end")
        self.check_refused(before + "- 1 " * 9 + ">+ 1 1 end end")
        self.check_refused(before + "- 1 " * 9 + "0 >+")
        self.check_refused(before + "+ 1 + 2 " + "+ " * 7 + "0 >+ 1 2")

    def test_depth_begins_anew(self):
        two = house_with(nested(10) + " need " + nested(10))
        self.check_accepted(two)
        self.check_accepted(house_with(f"0 if {nested(10)} set x {nested(10)} end"))

    def test_unknown(self):
        before = "asset a 1 contract c var x 2 0 end contract d var y 2 0 proc p 1 shown need "
        for word in ("x", "z", "a", "p", "c", "d", "b", "number", "variable", "asked", "cell"):
            self.check_refused(before + ">" + word)
            self.check_refused(before + f"< y >{word} end end")
        for word in ("have", "out"):
            for asset in ("b", "x", "y", "c", "p", "have", "0", "given", "zz"):
                self.check_refused(before + f"{word} >{asset}")
        self.check_accepted(before + "< y out a end end")

    def test_without_assets(self):
        before = "contract c var x 2 0 proc p 1 shown need "
        for word in ("have", "out"):
            self.check_refused(before + f">{word}")
            self.check_refused(before + f"+ >{word} x 1 end end")

    def test_other_words(self):
        before = "asset a 1 contract c var x 2 0 proc p 1 shown need "
        for word in ("end", "need", "set", "if", "else", "var", "asset", "proc", "shown", "call", "", "==", ">=",
                     "-1", "+1", "65536", "00", "01", "123456", "X", "//", "MOD", "1+1", "x\n", "\tx", "1\n", "+\n"):
            self.check_refused(before + f">{word} end end")
            self.check_refused(before + f"= >{word} 1 end end")
            self.check_refused(before + f"= 1 >{word} end end")


class WordsTest(unittest.TestCase):
    def test_each_kind(self):
        self.assertEqual(expression_words(("number", 0)), ["0"])
        self.assertEqual(expression_words(("number", 65535)), ["65535"])
        self.assertEqual(expression_words(("variable", "x")), ["x"])
        self.assertEqual(expression_words(("variable", "number")), ["number"])
        self.assertEqual(expression_words(("given",)), ["given"])
        self.assertEqual(expression_words(("have", "gold")), ["have", "gold"])
        self.assertEqual(expression_words(("out", "gold")), ["out", "gold"])
        for sign in OPERATORS:
            self.assertEqual(expression_words((sign, ("given",), ("number", 7))), [sign, "given", "7"])

    def test_order_of_parts(self):
        expression = ("-", ("/", ("have", "a"), ("number", 2)), ("<", ("variable", "x"), ("out", "b")))
        self.assertEqual(expression_words(expression), ["-", "/", "have", "a", "2", "<", "x", "out", "b"])

    def test_new_list(self):
        expression = ("have", "a")
        words = expression_words(expression)
        self.assertIs(type(words), list)
        words.append("b")
        self.assertEqual(expression_words(expression), ["have", "a"])
        self.assertEqual(expression, ("have", "a"))

    def test_read_again(self):
        for words in (nested(10), right_nested(10), "mod have a = out b - x given", "* 0 + 65535 / y y"):
            self.assertEqual(" ".join(expression_words(expression_of(words))), words)

    def test_somewhat_beyond_the_depth(self):
        expression = ("given",)
        for _ in range(40):
            expression = ("+", expression, ("number", 1))
        self.assertEqual(expression_words(expression), ["+"] * 40 + ["given"] + ["1"] * 40)


class CombineTest(unittest.TestCase):
    def check(self, sign, value):
        for left in EDGES:
            for right in EDGES:
                found = combine(sign, left, right)
                self.assertEqual(found, value(left, right), (sign, left, right))
                self.assertIs(type(found), int)
                self.assertTrue(0 <= found <= 65535)

    def test_sum(self):
        self.check("+", lambda left, right: (left + right) % 65536)
        self.assertEqual(combine("+", 65535, 0), 65535)
        self.assertEqual(combine("+", 65535, 1), 0)
        self.assertEqual(combine("+", 1, 65535), 0)
        self.assertEqual(combine("+", 65535, 65535), 65534)

    def test_difference(self):
        self.check("-", lambda left, right: left - right if left > right else 0)
        self.assertEqual(combine("-", 0, 1), 0)
        self.assertEqual(combine("-", 0, 65535), 0)
        self.assertEqual(combine("-", 65535, 0), 65535)
        self.assertEqual(combine("-", 65535, 65534), 1)

    def test_product(self):
        self.check("*", lambda left, right: (left * right) % 65536)
        self.assertEqual(combine("*", 256, 256), 0)
        self.assertEqual(combine("*", 257, 255), 65535)
        self.assertEqual(combine("*", 65535, 65535), 1)

    def test_quotient(self):
        self.check("/", lambda left, right: left // right if right else 0)
        self.assertEqual(combine("/", 7, 2), 3)
        self.assertEqual(combine("/", 65535, 2), 32767)
        self.assertEqual(combine("/", 7, 8), 0)
        for left in EDGES:
            self.assertEqual(combine("/", left, 0), 0)

    def test_remainder(self):
        self.check("mod", lambda left, right: left % right if right else 0)
        self.assertEqual(combine("mod", 7, 4), 3)
        self.assertEqual(combine("mod", 7, 8), 7)
        for left in EDGES:
            self.assertEqual(combine("mod", left, 0), 0)

    def test_less(self):
        self.check("<", lambda left, right: int(left < right))
        self.assertEqual(combine("<", 1, 1), 0)
        self.assertEqual(combine("<", 0, 65535), 1)

    def test_equal(self):
        self.check("=", lambda left, right: int(left == right))
        self.assertEqual(combine("=", 65535, 65535), 1)
        self.assertEqual(combine("=", 0, 65535), 0)


if __name__ == "__main__":
    unittest.main()
