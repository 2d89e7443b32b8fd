"""States of houses: the one at the beginning, and what a state is worth."""


def first_state(house):
    """The state of a house at the beginning."""
    values = [tuple([variable[2] for variable in contract[1]]) for contract in house.contracts]
    amounts = [held_amounts(house, contract) for contract in house.contracts]
    outside = [amount for name, amount in house.assets]
    return (tuple(values), tuple(amounts), tuple(outside))


def held_amounts(house, contract):
    """The amounts of all assets that a contract holds at the beginning, in the order of the assets."""
    held = dict(contract[2])
    return tuple([held.get(name, 0) for name, amount in house.assets])


def worth(state, prices):
    """What the amounts of the outsiders are worth, by a price for each asset."""
    return sum([amount * price for amount, price in zip(state[2], prices)])
