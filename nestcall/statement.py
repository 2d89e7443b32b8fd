"""Statements of procedures: reading and writing them."""

from nestcall.errors import BadText
from nestcall.expression import expression_words, read_expression

KINDS = ("set", "need", "give", "get", "move", "ask", "call", "if")
MOST_STATEMENTS = 24
MOST_ASKS = 6
MOST_ANSWERS = 64
DEEPEST_IF = 6


class Scope:
    """What the statements of one procedure may name, and the place where they begin.

    All are names: of the assets, of the contracts before the procedure's one,
    of its variables; `callees` is a dict from contracts to lists of procedures.
    """

    def __init__(self, assets, before, variables, callees, start):
        self.assets = assets
        self.before = before
        self.variables = variables
        self.callees = callees
        self.start = start


def has_room(cursor, scope):
    """Whether the procedure may have one more statement.

    Key words are never names, so that they can be counted as statements.
    """
    read = cursor.words[scope.start:cursor.at]
    return len([word for word in read if word in KINDS]) < MOST_STATEMENTS


def can_begin(cursor, scope, depth):
    """Whether the next word begins a statement that can be completed.

    A text must be refused at this word already if there is nothing that the
    statement could name. `depth` is the number of `if` around the statement.
    """
    word = cursor.word()
    if word not in KINDS or not has_room(cursor, scope):
        return False
    if word == "need":
        return True
    if word == "if":
        return depth < DEEPEST_IF
    if word == "call":
        return len(scope.callees) > 0
    if word == "set":
        return len(scope.variables) > 0
    if word == "ask":
        return len(scope.variables) > 0 and cursor.words[:cursor.at].count("ask") < MOST_ASKS
    if word == "move" and len(scope.before) == 0:
        return False
    return len(scope.assets) > 0


def read_block(cursor, scope, depth=0):
    """Reads statements as long as words begin them; returns a tuple."""
    block = []
    while can_begin(cursor, scope, depth):
        if cursor.skip("if"):
            block.append(read_if(cursor, scope, depth + 1))
        else:
            block.append(read_statement(cursor, scope))
    return tuple(block)


def read_if(cursor, scope, depth):
    """Reads an `if` of a depth, behind its first word."""
    test = read_value(cursor, scope)
    first = read_block(cursor, scope, depth)
    second = ()
    # Without room for one more statement no `else` can be completed.
    if has_room(cursor, scope) and cursor.skip("else"):
        second = read_block(cursor, scope, depth)
        if second == ():
            raise BadText(cursor.at)
    cursor.take(("end",))
    return ("if", test, first, second)


def read_statement(cursor, scope):
    """Reads a statement, but no `if`, whose first word can begin one here."""
    kind = cursor.word()
    cursor.skip(kind)
    if kind == "need":
        return (kind, read_value(cursor, scope))
    if kind == "set":
        name = cursor.take(scope.variables)
        return (kind, name, read_value(cursor, scope))
    if kind == "ask":
        name = cursor.take(scope.variables)
        return (kind, name, cursor.take_number(1, MOST_ANSWERS))
    if kind == "move":
        contract = cursor.take(scope.before)
        asset = cursor.take(scope.assets)
        return (kind, contract, asset, read_value(cursor, scope))
    if kind == "call":
        contract = cursor.take(list(scope.callees))
        procedure = cursor.take(scope.callees[contract])
        return (kind, contract, procedure, read_value(cursor, scope))
    asset = cursor.take(scope.assets)
    return (kind, asset, read_value(cursor, scope))


def read_value(cursor, scope):
    """Reads an expression of the procedure."""
    return read_expression(cursor, scope.variables, scope.assets)


def block_words(block):
    """The words of the statements of a block, as a list."""
    words = []
    for statement in block:
        words.extend(statement_words(statement))
    return words


def statement_words(statement):
    """The words of a statement, as a list."""
    kind = statement[0]
    if kind == "ask":
        return [kind, statement[1], str(statement[2])]
    if kind != "if":
        return list(statement[:-1]) + expression_words(statement[-1])
    words = [kind] + expression_words(statement[1]) + block_words(statement[2])
    if statement[3] != ():
        words = words + ["else"] + block_words(statement[3])
    return words + ["end"]


def nested(block):
    """All statements of a block, those within an `if` behind it, as a list."""
    found = []
    for statement in block:
        found.append(statement)
        if statement[0] == "if":
            found.extend(nested(statement[2]))
            found.extend(nested(statement[3]))
    return found
