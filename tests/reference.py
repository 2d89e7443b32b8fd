"""Running and searching written once more, slowly and straight from DOC.md, to compare with the program.

Procedures are generators over the data of a house (point 7): they yield the
number of answers where they ask, and are sent the answer. Rows are found by
doing every call through the rows so far, again and again, until none grows.
"""


class Fail(Exception):
    """Something failed."""


class Store:
    """A state by names, which running procedures change."""

    def __init__(self, house, state):
        self.house = house
        self.load(state)

    def load(self, state):
        values, amounts, outside = state
        assets = [name for name, _ in self.house.assets]
        self.values, self.amounts = {}, {None: dict(zip(assets, outside))}
        for contract, own, held in zip(self.house.contracts, values, amounts):
            self.values[contract[0]] = dict(zip([row[0] for row in contract[1]], own))
            self.amounts[contract[0]] = dict(zip(assets, held))

    def state(self):
        names = [contract[0] for contract in self.house.contracts]
        return (
            tuple(tuple(self.values[name].values()) for name in names),
            tuple(tuple(self.amounts[name].values()) for name in names),
            tuple(self.amounts[None].values()),
        )

    def pay(self, payer, payee, asset, amount):
        if self.amounts[payer][asset] < amount:
            raise Fail
        self.amounts[payer][asset] -= amount
        self.amounts[payee][asset] += amount


def beginning(house):
    values = tuple(tuple(first for _, _, first in contract[1]) for contract in house.contracts)
    amounts = tuple(
        tuple(sum(n for held, n in contract[2] if held == name) for name, _ in house.assets)
        for contract in house.contracts)
    return values, amounts, tuple(amount for _, amount in house.assets)


def find(rows, name):
    for row in rows:
        if row[0] == name:
            return row
    return None


def evaluate(store, contract, given, expression):
    kind = expression[0]
    if kind == "number":
        return expression[1]
    if kind == "variable":
        return store.values[contract][expression[1]]
    if kind == "given":
        return given
    if kind in ("have", "out"):
        return min(65535, store.amounts[contract if kind == "have" else None][expression[1]])
    left = evaluate(store, contract, given, expression[1])
    right = evaluate(store, contract, given, expression[2])
    return {
        "+": lambda: (left + right) % 65536,
        "-": lambda: left - right if left > right else 0,
        "*": lambda: (left * right) % 65536,
        "/": lambda: 0 if right == 0 else left // right,
        "mod": lambda: 0 if right == 0 else left % right,
        "<": lambda: int(left < right),
        "=": lambda: int(left == right),
    }[kind]()


def running(store, contract, procedure, given):
    """A generator that runs a procedure."""
    row = find(find(store.house.contracts, contract)[3], procedure)
    yield from running_block(store, contract, given, row[3])


def running_block(store, contract, given, block):
    sizes = {row[0]: row[1] for row in find(store.house.contracts, contract)[1]}
    for statement in block:
        kind = statement[0]
        if kind == "ask":
            answer = yield statement[2]
            store.values[contract][statement[1]] = answer % sizes[statement[1]]
            continue
        value = evaluate(store, contract, given, statement[1 if kind == "if" else -1])
        if kind == "set":
            store.values[contract][statement[1]] = value % sizes[statement[1]]
        elif kind == "need":
            if value == 0:
                raise Fail
        elif kind == "give":
            store.pay(contract, None, statement[1], value)
        elif kind == "get":
            store.pay(None, contract, statement[1], value)
        elif kind == "move":
            store.pay(contract, statement[1], statement[2], value)
        elif kind == "call":
            size = find(find(store.house.contracts, statement[1])[3], statement[2])[1]
            yield from running(store, statement[1], statement[2], value % size)
        else:
            yield from running_block(store, contract, given, statement[2 if value else 3])


class SlowWalk:
    """What a Walk does, with one generator for each open call."""

    def __init__(self, house, state=None):
        self.house = house
        self.store = Store(house, beginning(house) if state is None else state)
        self.open = []
        self.before = None
        self.failed = 0
        self.acts = 0

    def state(self):
        return self.store.state()

    def asked(self):
        return self.open[-1][1] if self.open else 0

    def depth(self):
        return len(self.open)

    def can(self, act):
        if act[0] == "answer":
            return bool(self.open) and act[1] in range(self.open[-1][1])
        contract = find(self.house.contracts, act[1])
        procedure = find(contract[3], act[2]) if contract else None
        return procedure is not None and procedure[2] and act[3] in range(procedure[1])

    def act(self, act):
        self.acts += 1
        try:
            if act[0] == "answer":
                going = self.open.pop()[0]
                answers = going.send(act[1])
            else:
                if not self.open:
                    self.before = self.state()
                going = running(self.store, *act[1:])
                answers = next(going)
            self.open.append((going, answers))
        except StopIteration:
            pass
        except Fail:
            self.failed += 1
            self.open = []
            self.store.load(self.before)


def calls_of(house):
    return [
        ("call", contract[0], name, number)
        for contract in house.contracts for name, size, shown, _ in contract[3] if shown for number in range(size)]


def call_through(house, state, call, choices):
    """What a call does with some states left behind and answers: a kind, a state, a number of answers."""
    store = Store(house, state)
    going = running(store, *call[1:])
    try:
        answers = next(going)
        for left, answer in choices:
            store.load(left)
            answers = going.send(answer)
    except StopIteration:
        return "ended", store.state(), 0
    except Fail:
        return "failed", None, 0
    return "asks", store.state(), answers


def ways_of(house, state, call, row_at, choices=()):
    """All ways of a call, each as the state at its end or None; `row_at` gives the row of a state."""
    kind, reached, answers = call_through(house, state, call, choices)
    if kind != "asks":
        return [reached]
    return [
        end for left in list(row_at(reached)) for answer in range(answers)
        for end in ways_of(house, state, call, row_at, choices + ((left, answer),))]


class TooMuch(Exception):
    """More states or ways than a search is allowed."""


def slow_rows(house, most_states=10 ** 9, most_ways=10 ** 9):
    """The least closed rows as a dict from states to sets of states."""
    first = beginning(house)
    rows = {first: {first}}

    def row_at(state):
        return rows.setdefault(state, {state})

    grown = True
    while grown:
        before = {state: set(row) for state, row in rows.items()}
        for state in set().union(*before.values()):
            for call in calls_of(house):
                ways = ways_of(house, state, call, row_at)
                if len(ways) > most_ways:
                    raise TooMuch("ways")
                for row in rows.values():
                    if state in row:
                        row.update(end for end in ways if end is not None)
        if len(set().union(*rows.values())) > most_states:
            raise TooMuch("states")
        grown = before != rows
    return rows


def slow_closed(house, pairs, most_ways=2000):
    """Whether rows are closed."""
    rows = {}
    for state, row in pairs:
        rows.setdefault(state, set(row))
    if beginning(house) not in rows or any(state not in row for state, row in rows.items()):
        return False
    try:
        for row in rows.values():
            for state in row:
                for call in calls_of(house):
                    ways = ways_of(house, state, call, rows.__getitem__)
                    if len(ways) > most_ways or not set(ways) - {None} <= row:
                        return False
    except KeyError:
        return False
    return True


def slow_lengths(house, rows):
    """The least number of acts from each state with a row to each state of this row."""
    best = {state: {state: 0} for state in rows}
    grown = True
    while grown:
        grown = False
        for row in best.values():
            for state, before in list(row.items()):
                for call in calls_of(house):
                    for end, length in costs_of(house, state, call, best):
                        if before + length < row.get(end, 10 ** 9):
                            row[end] = before + length
                            grown = True
    return best


def costs_of(house, state, call, best, choices=(), length=1):
    """The states at the ends of a call with the numbers of acts that lead there, which are known so far."""
    kind, reached, answers = call_through(house, state, call, choices)
    if kind == "ended":
        return [(reached, length)]
    if kind == "failed":
        return []
    return [
        cost for left, more in list(best[reached].items()) for answer in range(answers)
        for cost in costs_of(house, state, call, best, choices + ((left, answer),), length + more + 1)]
