"""Compiling houses to instructions."""

from nestcall.errors import TooLarge
from nestcall.expression import OPERATORS
from nestcall.program import Indexes

MOST_INSTRUCTIONS = 5000


class Code:
    """The instructions of a house, a tuple of triples, and a dict from (contract, procedure) to places."""

    def __init__(self, instructions, places):
        self.instructions = instructions
        self.places = places


def compiled(house):
    """The Code of a house. Raises TooLarge."""
    instructions = []
    places = {}
    sizes = {}
    for at, contract in enumerate(house.contracts):
        compiler = Compiler(Indexes(house, at), places, sizes)
        for name, size, _, block in contract[3]:
            places[(contract[0], name)] = len(instructions)
            sizes[(contract[0], name)] = size
            instructions.extend(compiler.block(block) + [("leave", 0, 0)])
            if len(instructions) > MOST_INSTRUCTIONS:
                raise TooLarge("code")
    return Code(tuple(instructions), places)


class Compiler:
    """Compiles the procedures of one contract.

    `places` and `sizes` are dicts from the (contract, procedure) of those
    before to their places and sizes.
    """

    def __init__(self, indexes, places, sizes):
        self.indexes = indexes
        self.places = places
        self.sizes = sizes

    def block(self, block):
        """The instructions of a block, as a list."""
        instructions = []
        for statement in block:
            instructions.extend(self.statement(statement))
        return instructions

    def statement(self, statement):
        """The instructions of a statement, as a list."""
        kind = statement[0]
        if kind == "ask":
            return [("ask", statement[2], 0), self.store(statement[1])]
        if kind == "if":
            return self.branches(statement)
        return self.expression(statement[-1]) + self.deed(statement)

    def branches(self, statement):
        """The instructions of an `if`, as a list."""
        first = self.block(statement[2])
        second = self.block(statement[3])
        if len(second) > 0:
            first.append(("jump", len(second), 0))
        return self.expression(statement[1]) + [("skip", len(first), 0)] + first + second

    def deed(self, statement):
        """What a statement does with the value of its expression, as a list of instructions."""
        kind = statement[0]
        if kind == "set":
            return [self.store(statement[1])]
        if kind == "need":
            return [("need", 0, 0)]
        if kind == "call":
            called = (statement[1], statement[2])
            return [("enter", self.places[called], self.sizes[called])]
        paid = (kind, self.indexes.own, self.indexes.assets.index(statement[-2]))
        if kind == "move":
            return [("target", self.indexes.contracts.index(statement[1]), 0), paid]
        return [paid]

    def store(self, name):
        """The instruction that gives a variable a value."""
        return ("store", self.indexes.own, self.indexes.variables.index(name))

    def expression(self, expression):
        """The instructions of an expression, as a list."""
        kind = expression[0]
        if kind in OPERATORS:
            left = self.expression(expression[1])
            return left + self.expression(expression[2]) + [("sign", OPERATORS.index(kind), 0)]
        if kind == "number":
            return [("push", expression[1], 0)]
        if kind == "variable":
            return [("load", self.indexes.own, self.indexes.variables.index(expression[1]))]
        if kind == "given":
            return [("given", 0, 0)]
        return [(kind, self.indexes.own, self.indexes.assets.index(expression[1]))]
