"""Small houses made at random, in which much can happen with few states."""

from random import Random

OPERATORS = ("+", "-", "*", "/", "mod", "<", "=", "+", "-", "<", "=")


class SmallMaker:
    """Makes the text of a house with small numbers, in which procedures often ask and call."""

    def __init__(self, seed):
        self.random = Random(seed)
        self.asks = self.random.randint(0, 4)
        self.left = 0
        self.assets = []
        self.before = []
        self.free = []

    def pick(self, *choices):
        return self.random.choice(choices)

    def some(self, names, least=0):
        return names[:self.random.randint(least, len(names))]

    def house(self):
        words = []
        self.assets = self.some(["gold", "iron"])
        for asset in self.assets:
            words += ["asset", asset, self.pick("0", "1", "2", "2")]
        for contract in self.some(["bank", "shop", "fund"], 1):
            words += self.contract(contract)
            self.before.append(contract)
        return " ".join(words)

    def contract(self, name):
        words = ["contract", name]
        variables = self.some(["x", "y"], self.pick(0, 1, 1))
        for variable in variables:
            words += ["var", variable] + self.pick("1 0", "2 0", "3 1", "3 0", "4 2").split(" ")
        for asset in self.assets:
            if self.random.random() < 0.7:
                words += ["hold", asset, self.pick("0", "1", "2", "3")]
        for procedure in self.some(["p", "q", "r"], self.pick(0, 1, 2)):
            words += ["proc", procedure, self.pick("1", "1", "2", "3"), self.pick("shown", "shown", "shown", "hidden")]
            self.left = self.pick(1, 2, 3, 5)
            block = self.block(variables, 0)
            words += block + ["end"]
            if "call" not in block:
                self.free.append([name, procedure])
        return words + ["end"]

    def block(self, variables, depth):
        words = []
        while self.left > 0 and self.random.random() < 0.9:
            self.left -= 1
            words += self.statement(variables, depth)
        return words

    def statement(self, variables, depth):
        kind = self.pick("set", "set", "set", "need", "give", "get", "move", "ask", "ask", "call", "call", "if")
        if kind == "set" and variables:
            return [kind, self.pick(*variables)] + self.value(variables)
        if kind in ("give", "get") and self.assets:
            return [kind, self.pick(*self.assets)] + self.value(variables)
        if kind == "move" and self.assets and self.before:
            return [kind, self.pick(*self.before), self.pick(*self.assets)] + self.value(variables)
        if kind == "ask" and variables and self.asks > 0:
            self.asks -= 1
            return [kind, self.pick(*variables), self.pick("1", "2", "2", "3")]
        if kind == "call" and self.free:
            return [kind] + self.pick(*self.free) + self.value(variables)
        if kind == "if" and depth < 3:
            words = [kind] + self.value(variables) + self.block(variables, depth + 1)
            second = self.block(variables, depth + 1)
            return words + (["else"] + second if second else []) + ["end"]
        if kind == "need" and variables:
            return [kind, self.pick("<", "="), self.pick(*variables)] + self.value(variables)
        return ["if", "1", "end"]

    def value(self, variables, depth=1):
        kind = self.random.randint(0, 5)
        if kind == 0 and depth < 4:
            return [self.pick(*OPERATORS)] + self.value(variables, depth + 1) + self.value(variables, depth + 1)
        if kind in (1, 2) and variables:
            return self.pick(["+", "1"], []) + [self.pick(*variables)]
        if kind == 3 and self.assets:
            return [self.pick("have", "out"), self.pick(*self.assets)]
        return ["given"] if kind == 4 else [self.pick("0", "1", "1", "2")]
