"""Guards: houses that have them, and least sets of them."""

from itertools import combinations

from nestcall.errors import BadGuard
from nestcall.house import House, names_of
from nestcall.most import most
from nestcall.search import reachable

LOCK_VARIABLE = ("lock", 2, 0)
LOCK_FRONT = (("need", ("=", ("variable", "lock"), ("number", 0))), ("set", "lock", ("number", 1)))
LOCK_BEHIND = (("set", "lock", ("number", 0)),)


def guarded(house, guards):
    """The house with some guards. Raises BadGuard."""
    for at, guard in enumerate(guards):
        if guard in guards[:at] or not can_have(house, guard):
            raise BadGuard(at)
    contracts = [guarded_contract(contract, guards) for contract in house.contracts]
    return House(house.assets, tuple(contracts))


def can_have(house, guard):
    """Whether a house can have a guard."""
    for name, variables, _, procedures in house.contracts:
        if name != guard[1]:
            continue
        if guard[0] == "hide":
            return guard[2] in names_of([procedure for procedure in procedures if procedure[2]])
        if guard[0] == "lock":
            return "lock" not in names_of(variables)
        return guard[2] in names_of(house.assets)
    return False


def guarded_contract(contract, guards):
    """A contract with those of some guards that are guards of it."""
    name, variables, holdings, procedures = contract
    front, behind = (), ()
    if ("lock", name) in guards:
        variables = variables + (LOCK_VARIABLE,)
        front, behind = LOCK_FRONT, LOCK_BEHIND
    floors = [floor_check(guard[2], guard[3]) for guard in guards if guard[:2] == ("floor", name)]
    behind = behind + tuple(floors)
    changed = []
    for procedure, size, shown, block in procedures:
        if shown:
            block = front + block + behind
        changed.append((procedure, size, shown and ("hide", name, procedure) not in guards, block))
    return (name, variables, holdings, tuple(changed))


def floor_check(asset, amount):
    """The statement that fails if the contract has less than an amount of an asset."""
    return ("need", ("=", ("<", ("have", asset), ("number", amount)), ("number", 0)))


def least_guards(house, candidates, prices, limit):
    """The least sets among some candidates that keep a limit, as lists. Raises BadGuard and TooLarge.

    Guards only cut ways off. So whatever contains a set that keeps the limit
    keeps it, too, and no part of a set that does not keep it does.
    """
    guarded(house, candidates)
    search_with_locks(house, candidates)
    least, failing = [], []
    for size in range(len(candidates) + 1):
        for picked in combinations(range(len(candidates)), size):
            if any([contains(picked, smaller) for smaller in least]):
                continue
            if any([contains(larger, picked) for larger in failing]):
                continue
            if most_with(house, candidates, picked, prices) <= limit:
                least.append(picked)
            else:
                failing.append(largest_failing(house, candidates, picked, prices, limit))
    return [[candidates[at] for at in chosen] for chosen in least]


def search_with_locks(house, candidates):
    """Raises TooLarge if the house with some set of the candidates is too large.

    Floors and hidden procedures add neither states nor ways, so that locks
    alone tell it: these add a variable.
    """
    locks = [guard for guard in candidates if guard[0] == "lock"]
    for size in range(len(locks) + 1):
        for picked in combinations(locks, size):
            reachable(guarded(house, list(picked)))


def most_with(house, candidates, picked, prices):
    """The most of the house with the candidates that have some indexes."""
    return most(guarded(house, [candidates[at] for at in picked]), prices)


def largest_failing(house, candidates, picked, prices, limit):
    """Indexes of candidates that do not keep a limit, some given ones among them, to which none can be added."""
    failing = list(picked)
    for at in range(len(candidates)):
        if at not in failing and most_with(house, candidates, failing + [at], prices) > limit:
            failing.append(at)
    return failing


def contains(picked, smaller):
    """Whether all of some indexes are among others."""
    return all([at in picked for at in smaller])
