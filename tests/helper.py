"""What several tests need: where a text is refused, and houses made at random."""

from random import Random

from nestcall.errors import BadText
from nestcall.house import house_text, read_house

OPERATORS = ("+", "-", "*", "/", "mod", "<", "=")


def refusal(text):
    """The index of the word at which a text is refused, or None."""
    try:
        read_house(text)
    except BadText as error:
        return error.at
    return None


def marked(text):
    """A text without its mark `>`, and the index of the marked word.

    A mark alone at the end stands for the number of words.
    """
    words = text.split(" ")
    at = [k for k, word in enumerate(words) if word.startswith(">")]
    assert len(at) == 1, text
    words[at[0]] = words[at[0]][1:]
    if words[at[0]] == "" and at[0] == len(words) - 1:
        words.pop()
    return " ".join(words), at[0]


class TextChecks:
    """Checks of texts, for test cases."""

    def check_accepted(self, text):
        """The text is that of a house, which has no other text."""
        self.assertIsNone(refusal(text), text)
        house = read_house(text)
        self.assertEqual(house_text(house), text)
        self.assertEqual(read_house(house_text(house)), house)
        return house

    def check_refused(self, text):
        """The text is refused at the word that is marked by `>`.

        Whatever follows that word makes no difference, and without it the
        words are the beginning of the text of some house.
        """
        plain, at = marked(text)
        words = plain.split(" ") if plain != "" else []
        self.assertEqual(refusal(plain), at, text)
        for more in ("end", "0 end end", "contract", "zz", ""):
            if at < len(words):
                self.assertEqual(refusal(" ".join(words[:at + 1] + [more])), at, text)
        self.assertIn(refusal(" ".join(words[:at])), (None, at), text)

    def check_cuts(self, text, whole=()):
        """Cut behind each word the text is refused there, but for some whole cuts."""
        words = text.split(" ")
        for count in range(len(words)):
            expected = None if count in whole else count
            self.assertEqual(refusal(" ".join(words[:count])), expected, words[:count])


class Maker:
    """Makes the words of houses at random, with the rules of DOC.md written once more."""

    def __init__(self, seed):
        self.random = Random(seed)
        self.asks = 6
        self.assets = []
        self.before = []
        self.free = []

    def house(self):
        words = []
        self.assets = self.names(self.random.randint(0, 3))
        for asset in self.assets:
            words += ["asset", asset, self.number(0, 65535)]
        for contract in self.names(self.random.randint(0, 4)):
            words += self.contract(contract)
            self.before.append(contract)
        return " ".join(words)

    def names(self, count):
        pool = ["a", "b2", "c", "twelvesigns1", "when", "asked", "x", "lock", "deep", "ends", "number"]
        return self.random.sample(pool, count)

    def number(self, least, most):
        return str(self.random.choice((least, most, self.random.randint(least, most))))

    def contract(self, name):
        words = ["contract", name]
        variables = self.names(self.random.randint(0, 6))
        for variable in variables:
            size = self.number(1, 65535)
            words += ["var", variable, size, self.number(0, int(size) - 1)]
        for asset in self.random.sample(self.assets, self.random.randint(0, len(self.assets))):
            words += ["hold", asset, self.number(0, 65535)]
        for procedure in self.names(self.random.randint(0, 6)):
            words += ["proc", procedure, self.number(1, 64), self.random.choice(("shown", "hidden"))]
            self.left = self.random.choice((0, 3, 24))
            block = self.block(variables, 0)
            words += block + ["end"]
            if "call" not in block:
                self.free.append((name, procedure))
        return words + ["end"]

    def block(self, variables, depth):
        words = []
        while self.left > 0 and self.random.random() < 0.8:
            self.left -= 1
            words += self.statement(variables, depth)
        return words

    def statement(self, variables, depth):
        kind = self.random.choice(("set", "give", "get", "move", "ask", "call", "if", "if"))
        if kind == "set" and variables:
            return [kind, self.random.choice(variables)] + self.value(variables)
        if kind in ("give", "get") and self.assets:
            return [kind, self.random.choice(self.assets)] + self.value(variables)
        if kind == "move" and self.assets and self.before:
            names = [self.random.choice(self.before), self.random.choice(self.assets)]
            return [kind] + names + self.value(variables)
        if kind == "ask" and variables and self.asks > 0:
            self.asks -= 1
            return [kind, self.random.choice(variables), self.number(1, 64)]
        if kind == "call" and self.free:
            return [kind] + list(self.random.choice(self.free)) + self.value(variables)
        if kind == "if" and depth < 6:
            words = [kind] + self.value(variables) + self.block(variables, depth + 1)
            second = self.block(variables, depth + 1)
            return words + (["else"] + second if second else []) + ["end"]
        return ["need"] + self.value(variables)

    def value(self, variables, depth=1):
        kind = self.random.randint(0, 6)
        if kind < 2 and depth < 10:
            sign = self.random.choice(OPERATORS)
            return [sign] + self.value(variables, depth + 1) + self.value(variables, depth + 1)
        if kind == 3 and variables:
            return [self.random.choice(variables)]
        if kind == 4 and self.assets:
            return [self.random.choice(("have", "out")), self.random.choice(self.assets)]
        return ["given"] if kind == 5 else [self.number(0, 65535)]
