"""New houses that take the place of old ones."""

from nestcall.errors import BadHouse
from nestcall.house import names_of
from nestcall.most import greatest_worth
from nestcall.search import beginning_states, reachable, searched
from nestcall.state import first_state


def carried(old, new, state):
    """The state at the beginning of a new house, behind a state of an old one. Raises BadHouse."""
    check_assets(old, new)
    places = {contract[0]: at for at, contract in enumerate(old.contracts)}
    first = first_state(new)
    values, amounts = list(first[0]), list(first[1])
    for at, contract in enumerate(new.contracts):
        if contract[0] in places:
            place = places[contract[0]]
            before = dict(zip(names_of(old.contracts[place][1]), state[0][place]))
            values[at] = taken_over(contract[1], before)
            amounts[at] = state[1][place]
    return (tuple(values), tuple(amounts), state[2])


def check_assets(old, new):
    """Raises BadHouse if two houses have other names of assets, or another order."""
    if names_of(old.assets) != names_of(new.assets):
        raise BadHouse("assets")


def taken_over(variables, before):
    """The values of some variables, behind a dict from names to values."""
    return tuple([before.get(name, first) % size for name, size, first in variables])


def most_after(old, new, prices):
    """The most before or after an upgrade at any time. Raises BadHouse and TooLarge."""
    check_assets(old, new)
    before = reachable(old)
    after = {}
    for state in before:
        start = carried(old, new, state)
        # What can be brought about from a state that has been found, has been found with it.
        if start not in after:
            for found in beginning_states(searched(new, start)):
                after[found] = True
    return greatest_worth(before + list(after), prices)
