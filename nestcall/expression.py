"""Expressions: reading and writing them, and the values of their operators."""

from nestcall.errors import BadText
from nestcall.words import LARGEST, number_of

OPERATORS = ("+", "-", "*", "/", "mod", "<", "=")
DEEPEST_EXPRESSION = 10


def read_expression(cursor, variables, assets, depth=1):
    """Reads an expression over some names of variables and of assets.

    `depth` counts the operators around it, and the expression itself.
    """
    word = cursor.word()
    if word in OPERATORS and depth < DEEPEST_EXPRESSION:
        cursor.skip(word)
        left = read_expression(cursor, variables, assets, depth + 1)
        right = read_expression(cursor, variables, assets, depth + 1)
        return (word, left, right)
    if word in ("have", "out") and len(assets) > 0:
        cursor.skip(word)
        return (word, cursor.take(assets))
    leaf = single_word(word, variables)
    if leaf is None:
        raise BadText(cursor.at)
    cursor.skip(word)
    return leaf


def single_word(word, variables):
    """The expression that a word writes alone, or None."""
    if word == "given":
        return ("given",)
    if word in variables:
        return ("variable", word)
    number = number_of(word)
    if number is None:
        return None
    return ("number", number)


def expression_words(expression):
    """The words of an expression, as a list."""
    kind = expression[0]
    if kind in OPERATORS:
        return [kind] + expression_words(expression[1]) + expression_words(expression[2])
    if kind == "number":
        return [str(expression[1])]
    if kind == "variable":
        return [expression[1]]
    return list(expression)


def combine(sign, left, right):
    """The value of an operator for the values of its two parts."""
    if sign == "+":
        return (left + right) % (LARGEST + 1)
    if sign == "-":
        return max(0, left - right)
    if sign == "*":
        return (left * right) % (LARGEST + 1)
    if sign == "/":
        return left // right if right != 0 else 0
    if sign == "mod":
        return left % right if right != 0 else 0
    if sign == "<":
        return 1 if left < right else 0
    return 1 if left == right else 0
