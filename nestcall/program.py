"""Procedures as rows of steps, in which indexes stand for names and skips for blocks.

A place in a row of steps is a single number, so that a procedure that waits
for an answer can be kept, compared and continued more than once.
"""

from nestcall.expression import OPERATORS
from nestcall.house import names_of


class Procedure:
    """A procedure: its size, whether outsiders may call it, and its steps.

    The steps are tuples; an expression is the last part of each that has one:
    ("set", contract, variable, size, E), ("need", E),
    ("pay", payer, payee, asset, E), ("ask", contract, variable, size, N),
    ("call", place, size, E), ("skip", count, E), which passes over some steps
    if E is 0, and ("jump", count), which always does.
    """

    def __init__(self, size, shown, steps):
        self.size = size
        self.shown = shown
        self.steps = steps


class Program:
    """The procedures of a house, a list in the order of the text.

    `places` is a dict from (contract, procedure) to an index of that list;
    `calls` are all calls that outsiders may begin, as triples of index, number
    and act.
    """

    def __init__(self, house):
        self.procedures = []
        self.places = {}
        for at, contract in enumerate(house.contracts):
            scope = Indexes(house, at)
            for name, size, shown, block in contract[3]:
                steps = block_steps(block, scope, self)
                self.places[(contract[0], name)] = len(self.procedures)
                self.procedures.append(Procedure(size, shown, steps))
        self.calls = outside_calls(self)


class Indexes:
    """The indexes of what the procedures of one contract name.

    Among the holders of amounts the outsiders stand behind all contracts.
    """

    def __init__(self, house, own):
        self.own = own
        self.outsiders = len(house.contracts)
        self.contracts = names_of(house.contracts)
        self.assets = names_of(house.assets)
        self.variables = names_of(house.contracts[own][1])
        self.sizes = [row[1] for row in house.contracts[own][1]]


def outside_calls(program):
    """All calls that outsiders may begin, as triples of a procedure's index, a number and an act."""
    calls = []
    for (contract, name), place in program.places.items():
        procedure = program.procedures[place]
        if procedure.shown:
            calls.extend([(place, number, ("call", contract, name, number)) for number in range(procedure.size)])
    return calls


def block_steps(block, scope, program):
    """The steps of a block, as a list."""
    steps = []
    for statement in block:
        if statement[0] == "if":
            steps.extend(if_steps(statement, scope, program))
        else:
            steps.append(plain_step(statement, scope, program))
    return steps


def if_steps(statement, scope, program):
    """The steps of an `if`, as a list."""
    test = indexed(statement[1], scope)
    first = block_steps(statement[2], scope, program)
    second = block_steps(statement[3], scope, program)
    if len(second) > 0:
        first.append(("jump", len(second)))
    return [("skip", len(first), test)] + first + second


def plain_step(statement, scope, program):
    """The step of a statement that is no `if`."""
    kind = statement[0]
    if kind in ("set", "ask"):
        variable = scope.variables.index(statement[1])
        last = statement[2] if kind == "ask" else indexed(statement[2], scope)
        return (kind, scope.own, variable, scope.sizes[variable], last)
    value = indexed(statement[-1], scope)
    if kind == "need":
        return (kind, value)
    if kind == "call":
        place = program.places[(statement[1], statement[2])]
        return (kind, place, program.procedures[place].size, value)
    payer, payee = payment_sides(statement, scope)
    return ("pay", payer, payee, scope.assets.index(statement[-2]), value)


def payment_sides(statement, scope):
    """The indexes of who pays and of who is paid by a `give`, `get` or `move`."""
    if statement[0] == "give":
        return scope.own, scope.outsiders
    if statement[0] == "get":
        return scope.outsiders, scope.own
    return scope.own, scope.contracts.index(statement[1])


def indexed(expression, scope):
    """An expression with indexes in the place of names.

    A variable becomes ("variable", contract, variable), `have` and `out`
    become ("amount", holder, asset).
    """
    kind = expression[0]
    if kind in OPERATORS:
        return (kind, indexed(expression[1], scope), indexed(expression[2], scope))
    if kind == "variable":
        return (kind, scope.own, scope.variables.index(expression[1]))
    if kind == "have":
        return ("amount", scope.own, scope.assets.index(expression[1]))
    if kind == "out":
        return ("amount", scope.outsiders, scope.assets.index(expression[1]))
    return expression
