"""Houses: their data, and reading and writing their texts."""

from nestcall.errors import BadText
from nestcall.statement import Scope, block_words, nested, read_block
from nestcall.words import LARGEST, Cursor

MOST_ASSETS = 3
MOST_CONTRACTS = 4
MOST_VARIABLES = 6
MOST_PROCEDURES = 6
LARGEST_PROCEDURE = 64


class House:
    """A house of contracts, as data."""

    def __init__(self, assets, contracts):
        self.assets = assets
        self.contracts = contracts

    def __eq__(self, other):
        return isinstance(other, House) and self.assets == other.assets and self.contracts == other.contracts


def read_house(text):
    """The house that a text writes. Raises BadText."""
    cursor = Cursor(text)
    assets = read_assets(cursor)
    contracts = []
    while len(contracts) < MOST_CONTRACTS and cursor.skip("contract"):
        contracts.append(read_contract(cursor, assets, contracts))
    if not cursor.at_end():
        raise BadText(cursor.at)
    return House(assets, tuple(contracts))


def read_assets(cursor):
    """Reads the assets of a house."""
    assets = []
    while len(assets) < MOST_ASSETS and cursor.skip("asset"):
        name = cursor.take_new_name(names_of(assets))
        assets.append((name, cursor.take_number(0, LARGEST)))
    return tuple(assets)


def read_contract(cursor, assets, before):
    """Reads a contract, behind its first word, that stands behind some others."""
    name = cursor.take_new_name(names_of(before))
    variables = read_variables(cursor)
    holdings = read_holdings(cursor, assets)
    procedures = []
    while len(procedures) < MOST_PROCEDURES and cursor.skip("proc"):
        so_far = (name, variables, holdings, tuple(procedures))
        scope = scope_behind(assets, before + [so_far], cursor.at)
        procedures.append(read_procedure(cursor, names_of(procedures), scope))
    cursor.take(("end",))
    return (name, variables, holdings, tuple(procedures))


def read_variables(cursor):
    """Reads the variables of a contract."""
    variables = []
    while len(variables) < MOST_VARIABLES and cursor.skip("var"):
        name = cursor.take_new_name(names_of(variables))
        size = cursor.take_number(1, LARGEST)
        variables.append((name, size, cursor.take_number(0, size - 1)))
    return tuple(variables)


def read_holdings(cursor, assets):
    """Reads the holdings of a contract: each asset at most once."""
    holdings = []
    left = names_of(assets)
    while len(left) > 0 and cursor.skip("hold"):
        asset = cursor.take(left)
        left.remove(asset)
        holdings.append((asset, cursor.take_number(0, LARGEST)))
    return tuple(holdings)


def read_procedure(cursor, used, scope):
    """Reads a procedure, behind its first word, whose name is not a used one."""
    name = cursor.take_new_name(used)
    size = cursor.take_number(1, LARGEST_PROCEDURE)
    shown = cursor.take(("shown", "hidden")) == "shown"
    block = read_block(cursor, scope)
    cursor.take(("end",))
    return (name, size, shown, block)


def names_of(rows):
    """The names of assets, contracts, variables or procedures, as a list."""
    return [row[0] for row in rows]


def scope_behind(assets, contracts, start):
    """The scope of a procedure that stands behind all of some contracts' procedures.

    The procedure belongs to the last one of the contracts.
    """
    names = names_of(contracts)
    variables = names_of(contracts[-1][1])
    return Scope(names_of(assets), names[:-1], variables, callable_procedures(contracts), start)


def callable_procedures(contracts):
    """A dict from the contracts that have procedures without `call` to these."""
    callees = {}
    for contract in contracts:
        free = [procedure for procedure in contract[3] if not has_call(procedure)]
        if len(free) > 0:
            callees[contract[0]] = names_of(free)
    return callees


def has_call(procedure):
    """Whether a procedure contains a `call`."""
    return any([statement[0] == "call" for statement in nested(procedure[3])])


def house_text(house):
    """The text of a house."""
    words = []
    for name, amount in house.assets:
        words.extend(["asset", name, str(amount)])
    for contract in house.contracts:
        words.extend(contract_words(contract))
    return " ".join(words)


def contract_words(contract):
    """The words of a contract, as a list."""
    name, variables, holdings, procedures = contract
    words = ["contract", name]
    for variable, size, first in variables:
        words.extend(["var", variable, str(size), str(first)])
    for asset, amount in holdings:
        words.extend(["hold", asset, str(amount)])
    for procedure in procedures:
        words.extend(procedure_words(procedure))
    return words + ["end"]


def procedure_words(procedure):
    """The words of a procedure, as a list."""
    name, size, shown, block = procedure
    sight = "shown" if shown else "hidden"
    return ["proc", name, str(size), sight] + block_words(block) + ["end"]
