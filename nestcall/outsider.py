"""Outsiders that are described by texts, and what they do."""

from nestcall.errors import BadText
from nestcall.expression import OPERATORS, combine, expression_words
from nestcall.walk import Walk
from nestcall.words import LARGEST, Cursor, number_of

MOST_RULES = 40
DEEPEST_EXPRESSION = 8
SENSES = ("asked", "deep", "failed", "cell")


class Outsider:
    """An outsider, as a tuple of rules."""

    def __init__(self, rules):
        self.rules = tuple(rules)

    def __eq__(self, other):
        return isinstance(other, Outsider) and self.rules == other.rules


def read_outsider(text):
    """The outsider that a text writes. Raises BadText."""
    cursor = Cursor(text)
    rules = []
    while len(rules) < MOST_RULES and cursor.skip("when"):
        test = read_value(cursor)
        deed = read_deed(cursor)
        rules.append((test, deed, read_value(cursor)))
    if not cursor.at_end():
        raise BadText(cursor.at)
    return Outsider(tuple(rules))


def read_deed(cursor):
    """Reads a deed."""
    kind = cursor.take(("call", "answer"))
    if kind == "answer":
        return (kind, read_value(cursor))
    contract = cursor.take_new_name(())
    procedure = cursor.take_new_name(())
    return (kind, contract, procedure, read_value(cursor))


def read_value(cursor, depth=1):
    """Reads an expression; `depth` counts the operators around it, and the expression itself."""
    word = cursor.word()
    if word in OPERATORS and depth < DEEPEST_EXPRESSION:
        cursor.skip(word)
        left = read_value(cursor, depth + 1)
        right = read_value(cursor, depth + 1)
        return (word, left, right)
    number = number_of(word)
    if number is None:
        return (cursor.take(SENSES),)
    cursor.skip(word)
    return ("number", number)


def outsider_text(outsider):
    """The text of an outsider."""
    words = []
    for test, deed, cell in outsider.rules:
        words.append("when")
        words.extend(expression_words(test))
        words.extend(list(deed[:-1]) + expression_words(deed[-1]))
        words.extend(expression_words(cell))
    return " ".join(words)


def acts_of(house, outsider, count):
    """The acts that an outsider does from the beginning, at most so many, as a list."""
    doing = Walk(house)
    acts = []
    cell = 0
    while len(acts) < count:
        senses = senses_of(doing, cell)
        rule = rule_that_counts(outsider, senses)
        if rule is None:
            return acts
        deed = rule[1]
        act = deed[:-1] + (value_of(deed[-1], senses),)
        if not doing.can(act):
            return acts
        doing.act(act)
        acts.append(act)
        cell = value_of(rule[2], senses)
    return acts


def senses_of(doing, cell):
    """What an outsider knows in a Walk, as a dict from words to numbers."""
    failed = min(doing.failed, LARGEST)
    return {"asked": doing.asked(), "deep": doing.depth(), "failed": failed, "cell": cell}


def rule_that_counts(outsider, senses):
    """The first rule whose test is not 0, or None."""
    for rule in outsider.rules:
        if value_of(rule[0], senses) != 0:
            return rule
    return None


def value_of(expression, senses):
    """The value of an expression of an outsider."""
    kind = expression[0]
    if kind == "number":
        return expression[1]
    if kind in SENSES:
        return senses[kind]
    return combine(kind, value_of(expression[1], senses), value_of(expression[2], senses))


def outsider_of(acts):
    """The outsider that does some acts: its cell counts them. Raises BadText if there are too many."""
    if len(acts) > MOST_RULES:
        raise BadText(len(acts))
    rules = []
    for at, act in enumerate(acts):
        deed = act[:-1] + (("number", act[-1]),)
        rules.append((("=", ("cell",), ("number", at)), deed, ("number", at + 1)))
    return Outsider(tuple(rules))
