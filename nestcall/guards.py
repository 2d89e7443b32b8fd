"""Guards: houses that have them, and least sets of them."""

from itertools import combinations

from nestcall.errors import BadGuard
from nestcall.house import House, names_of
from nestcall.most import most

LOCK_VARIABLE = ("lock", 2, 0)
LOCK_FRONT = (("need", ("=", ("variable", "lock"), ("number", 0))), ("set", "lock", ("number", 1)))
LOCK_BEHIND = (("set", "lock", ("number", 0)),)


def guarded(house, guards):
    """The house with some guards. Raises BadGuard."""
    for at, guard in enumerate(guards):
        if guard in guards[:at] or not can_have(house, guard):
            raise BadGuard(at)
    contracts = [guarded_contract(contract, guards) for contract in house.contracts]
    return House(house.assets, tuple(contracts))


def can_have(house, guard):
    """Whether a house can have a guard."""
    for name, variables, _, procedures in house.contracts:
        if name != guard[1]:
            continue
        if guard[0] == "hide":
            return guard[2] in names_of([procedure for procedure in procedures if procedure[2]])
        if guard[0] == "lock":
            return "lock" not in names_of(variables)
        return guard[2] in names_of(house.assets)
    return False


def guarded_contract(contract, guards):
    """A contract with those of some guards that are guards of it."""
    name, variables, holdings, procedures = contract
    front, behind = (), ()
    if ("lock", name) in guards:
        variables = variables + (LOCK_VARIABLE,)
        front, behind = LOCK_FRONT, LOCK_BEHIND
    floors = [floor_check(guard[2], guard[3]) for guard in guards if guard[:2] == ("floor", name)]
    behind = behind + tuple(floors)
    changed = []
    for procedure, size, shown, block in procedures:
        if shown:
            block = front + block + behind
        changed.append((procedure, size, shown and ("hide", name, procedure) not in guards, block))
    return (name, variables, holdings, tuple(changed))


def floor_check(asset, amount):
    """The statement that fails if the contract has less than an amount of an asset."""
    return ("need", ("=", ("<", ("have", asset), ("number", amount)), ("number", 0)))


def least_guards(house, candidates, prices, limit):
    """The least sets among some candidates that keep a limit, as lists. Raises BadGuard and TooLarge.

    Guards only cut ways off, so that no set keeps a limit that all candidates
    together do not keep. A set that need not be tried may still have a house
    that is too large. But without its floors and hidden procedures, which add
    no states, that house would be too large as well, and this has been seen by
    then: locks alone are left to be asked.
    """
    hopeless = most(guarded(house, candidates), prices) > limit
    least = []
    for size in range(len(candidates) + 1):
        for picked in combinations(range(len(candidates)), size):
            guards = [candidates[at] for at in picked]
            needless = hopeless or any([contains(picked, smaller) for smaller in least])
            if needless and not only_locks(guards):
                continue
            if most(guarded(house, guards), prices) <= limit and not needless:
                least.append(picked)
    return [[candidates[at] for at in chosen] for chosen in least]


def contains(picked, smaller):
    """Whether all of some indexes are among others."""
    return all([at in picked for at in smaller])


def only_locks(guards):
    """Whether all of some guards are locks."""
    return all([guard[0] == "lock" for guard in guards])
