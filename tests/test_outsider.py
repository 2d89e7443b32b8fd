"""Point 19: texts and data of outsiders."""

import unittest
from random import Random

from nestcall.errors import BadText
from nestcall.outsider import Outsider, outsider_text, read_outsider
from nestcall.words import KEY_WORDS
from tests.helper import OPERATORS, marked

SENSES = ("asked", "deep", "failed", "cell")
RULE = "when 1 answer 0 cell"


def number(value):
    return ("number", value)


def refusal(text):
    """The index of the word at which a text is refused, or None."""
    try:
        read_outsider(text)
    except BadText as error:
        return error.at
    return None


def deep(depth, leaf="1", sign="+", right=True):
    """The words of an expression of a depth."""
    if right:
        return f"{sign} {leaf} " * (depth - 1) + leaf
    return f"{sign} " * (depth - 1) + leaf + f" {leaf}" * (depth - 1)


class Chooser:
    """Makes texts of outsiders at random, with the rules of DOC.md written once more."""

    def __init__(self, seed):
        self.random = Random(seed)

    def text(self):
        return " ".join(" ".join(self.rule()) for _ in range(self.random.choice((0, 1, 2, 5, 40))))

    def rule(self):
        words = ["when"] + self.value()
        if self.random.random() < 0.5:
            names = ["a", "when", "answer", "cell", "asked", "deep", "failed", "p1", "abcdefghijkl"]
            words += ["call", self.random.choice(names), self.random.choice(names)]
        else:
            words += ["answer"]
        return words + self.value() + self.value()

    def value(self, depth=1):
        if depth < 8 and self.random.random() < 0.4:
            return [self.random.choice(OPERATORS)] + self.value(depth + 1) + self.value(depth + 1)
        return [self.random.choice(SENSES + ("0", "1", "65535", str(self.random.randint(0, 65535))))]


class OutsiderChecks:
    """Checks of texts, for test cases."""

    def check_read(self, text, rules):
        """The text is that of an outsider with these rules, and of no other one."""
        outsider = read_outsider(text)
        self.assertIs(type(outsider), Outsider)
        self.assertIs(type(outsider.rules), tuple)
        self.assertEqual(outsider.rules, rules, text)
        self.assertEqual(outsider_text(outsider), text)
        self.assertEqual(outsider_text(Outsider(rules)), text)
        self.assertEqual(read_outsider(text), outsider)

    def check_accepted(self, text):
        self.assertIsNone(refusal(text), text)
        self.assertEqual(outsider_text(read_outsider(text)), text)
        self.assertEqual(read_outsider(outsider_text(read_outsider(text))), read_outsider(text))

    def check_refused(self, text):
        """The text is refused at the word that is marked by `>`, whatever follows it, and not before."""
        plain, at = marked(text)
        words = plain.split(" ") if plain != "" else []
        self.assertEqual(refusal(plain), at, text)
        for more in ("when", "1", "answer", ""):
            if at < len(words):
                self.assertEqual(refusal(" ".join(words[:at + 1] + [more])), at, text)
        self.assertIn(refusal(" ".join(words[:at])), (None, at), text)


class RulesTest(OutsiderChecks, unittest.TestCase):
    def test_no_rules(self):
        self.check_read("", ())

    def test_answer(self):
        self.check_read("when asked answer 3 cell", ((("asked",), ("answer", number(3)), ("cell",)),))

    def test_call(self):
        self.check_read(
            "when = deep 0 call bank draw cell + cell 1",
            ((("=", ("deep",), number(0)), ("call", "bank", "draw", ("cell",)), ("+", ("cell",), number(1))),))

    def test_several_rules(self):
        self.check_read(
            "when < deep 3 call bank p 0 failed when 1 answer - asked 1 0 when cell call a b 1 2",
            ((("<", ("deep",), number(3)), ("call", "bank", "p", number(0)), ("failed",)),
             (number(1), ("answer", ("-", ("asked",), number(1))), number(0)),
             (("cell",), ("call", "a", "b", number(1)), number(2))))

    def test_every_operator_and_word(self):
        for sign in OPERATORS:
            for left in SENSES:
                value = (sign, (left,), number(7))
                self.check_read(
                    f"when {sign} {left} 7 answer {sign} {left} 7 {sign} {left} 7", ((value, ("answer", value), value),))

    def test_nested(self):
        value = ("mod", ("-", ("asked",), ("cell",)), ("/", number(0), ("*", ("deep",), ("failed",))))
        words = "mod - asked cell / 0 * deep failed"
        self.check_read(f"when {words} call x y {words} {words}", ((value, ("call", "x", "y", value), value),))

    def test_numbers_of_rules(self):
        for count in (0, 1, 2, 39, 40):
            self.check_accepted(" ".join([RULE] * count))
            self.assertEqual(len(read_outsider(" ".join([RULE] * count)).rules), count)
        self.check_refused(" ".join([RULE] * 40 + [">" + RULE]))
        self.check_refused(" ".join([RULE] * 40 + [">when"]))
        self.check_refused(" ".join([RULE] * 40 + [">when zz 0"]))

    def test_made_texts(self):
        for seed in range(200):
            self.check_accepted(Chooser(seed).text())

    def test_one_text_for_each_outsider(self):
        texts = [Chooser(seed).text() for seed in range(60)]
        for text in texts:
            for other in texts:
                self.assertEqual(read_outsider(text) == read_outsider(other), text == other)


class WordsTest(OutsiderChecks, unittest.TestCase):
    def test_depth(self):
        for right in (True, False):
            for leaf in ("1", "cell"):
                for depth in (1, 2, 7, 8):
                    words = deep(depth, leaf, "-", right)
                    self.check_accepted(f"when {words} answer {words} {words}")
                    self.check_accepted(f"when {words} call a b {words} {words}")
        self.check_accepted("when " + "+ " * 7 + "1 " * 8 + "answer 0 0")

    def test_too_deep(self):
        for sign in OPERATORS:
            words = f"{sign} " * 7 + f">{sign} 1 1"
            self.check_refused(f"when {words} answer 0 0")
            self.check_refused(f"when 1 answer {words} 0")
            self.check_refused(f"when 1 answer 0 {words}")
            self.check_refused(f"when 1 call a b {words} 0")
            self.check_refused(f"when 1 call a b 0 {words}")
        words = "+ 1 " * 7 + ">mod 1 1"
        self.check_refused(f"when {words} answer 0 0")

    def test_names_that_are_senses(self):
        for name in SENSES + ("when", "answer", "a", "abcdefghijkl", "z9", "number", "rule"):
            self.check_read(
                f"when 1 call {name} {name} 0 0",
                ((number(1), ("call", name, name, number(0)), number(0)),))

    def test_words_that_are_no_names(self):
        for word in KEY_WORDS + ("abcdefghijklm", "", "A", "9a", "0", "a_b", "a-b", "+", "?", "a\n", "=", "<"):
            self.check_refused(f"when 1 call >{word} p 0 0")
            self.check_refused(f"when 1 call bank >{word} 0 0")

    def test_numbers(self):
        for word in ("0", "1", "9", "10", "65535"):
            self.check_accepted(f"when {word} answer {word} {word}")
        for word in ("65536", "99999", "100000", "00", "01", "-1", "+1", "1.0", "", "1a", "1\n"):
            self.check_refused(f"when >{word} answer 0 0")
            self.check_refused(f"when 1 answer >{word} 0")
            self.check_refused(f"when 1 answer 0 >{word}")
            self.check_refused(f"when 1 call a b 0 >{word}")
            self.check_refused(f"when + 1 >{word} answer 0 0")

    def test_words_that_are_no_expressions(self):
        for word in ("given", "have", "out", "x", "when", "answer", "call", "bank", "Asked", "cells", "variable", "number"):
            self.check_refused(f"when >{word} answer 0 0")
            self.check_refused(f"when 1 answer >{word} 0")
            self.check_refused(f"when 1 answer 0 >{word}")
            self.check_refused(f"when 1 call a b >{word} 0")
            self.check_refused(f"when < deep >{word} answer 0 0")

    def test_wrong_deeds(self):
        for word in ("give", "when", "0", "", "asked", "ask", "Call", "answers"):
            self.check_refused(f"when 1 >{word} 0 0")

    def test_wrong_beginnings(self):
        for word in ("call", "answer", "1", "cell", "end", "When", "?"):
            self.check_refused(f">{word} 1 answer 0 0")
            self.check_refused(f"{RULE} >{word} 1 answer 0 0")
        for text in (" ", "  "):
            self.assertEqual(refusal(text), 0)
        self.check_refused(f"{RULE} > {RULE}")
        self.check_refused("> " + RULE)
        self.assertEqual(refusal(RULE + " "), 5)
        self.assertEqual(refusal(RULE + "\n"), 4)
        self.assertEqual(refusal("\n"), 0)

    def test_cuts(self):
        """A text that is cut is refused there, but behind each rule."""
        text = "when < deep + 1 cell call bank answer - cell 1 failed when 0 answer asked 7 " + RULE
        words = text.split(" ")
        starts = [at for at, word in enumerate(words) if word == "when"]
        self.assertEqual(len(starts), 3)
        for count in range(len(words)):
            self.assertEqual(refusal(" ".join(words[:count])), None if count in starts else count, words[:count])
        for seed in range(40):
            words = Chooser(seed).text().split(" ")[:400]
            for count in range(1, len(words)):
                self.assertIn(refusal(" ".join(words[:count])), (None, count))

    def test_the_first_wrong_word_counts(self):
        self.check_refused("when >x answer y z")
        self.check_refused("when 1 >give 0 when")
        self.check_refused("when 1 call a >mod zz zz")


class EqualTest(unittest.TestCase):
    def test_alike(self):
        text = "when 1 call a b 0 cell when deep answer 1 2"
        self.assertTrue(read_outsider(text) == read_outsider(text))
        self.assertFalse(read_outsider(text) != read_outsider(text))
        self.assertIsNot(read_outsider(text), read_outsider(text))
        self.assertTrue(read_outsider("") == Outsider(()))

    def test_different(self):
        text = "when 1 call a b 0 cell"
        for other in (
                "", text + " " + text, "when 2 call a b 0 cell", "when 1 call b b 0 cell", "when 1 call a a 0 cell",
                "when 1 call a b 1 cell", "when 1 call a b 0 deep", "when 1 answer 0 cell", "when cell call a b 0 cell"):
            self.assertFalse(read_outsider(text) == read_outsider(other), other)
            self.assertTrue(read_outsider(text) != read_outsider(other), other)

    def test_other_kinds(self):
        for other in ((), None, "", 0):
            self.assertFalse(read_outsider("") == other)


if __name__ == "__main__":
    unittest.main()
