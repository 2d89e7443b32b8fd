"""Parts of houses: groups of contracts that have nothing to do with the others."""

from nestcall.expression import OPERATORS
from nestcall.house import House
from nestcall.statement import nested


def parts(house):
    """The smallest groups of contracts, as lists of indexes."""
    told = [mentioned(contract) for contract in house.contracts]
    groups = []
    for at, contract in enumerate(house.contracts):
        told[at].append(("contract", contract[0]))
        joined = [group for group in groups if share(told, group, at)]
        apart = [group for group in groups if group not in joined]
        members = [at]
        for group in joined:
            members.extend(group)
        groups = apart + [sorted(members)]
    return sorted(groups)


def share(told, group, at):
    """Whether a contract and some member of a group mention the same, or one of them the other one."""
    return any([mention in told[at] for member in group for mention in told[member]])


def mentioned(contract):
    """All contracts and assets that a contract mentions, as pairs of a kind and a name."""
    found = [("asset", asset) for asset, amount in contract[2] if amount != 0]
    for procedure in contract[3]:
        for statement in nested(procedure[3]):
            found.extend(mentioned_in_statement(statement))
    return found


def mentioned_in_statement(statement):
    """What a statement mentions, without the statements within it."""
    kind = statement[0]
    if kind == "ask":
        return []
    if kind == "if":
        return mentioned_in(statement[1])
    found = mentioned_in(statement[-1])
    if kind in ("move", "call"):
        found.append(("contract", statement[1]))
    if kind in ("give", "get", "move"):
        found.append(("asset", statement[-2]))
    return found


def mentioned_in(expression):
    """What an expression mentions, as a list."""
    kind = expression[0]
    if kind in OPERATORS:
        return mentioned_in(expression[1]) + mentioned_in(expression[2])
    if kind in ("have", "out"):
        return [("asset", expression[1])]
    return []


def part_house(house, row):
    """The house of a part, which is a list of indexes of contracts."""
    contracts = [contract for at, contract in enumerate(house.contracts) if at in row]
    return House(house.assets, tuple(contracts))
