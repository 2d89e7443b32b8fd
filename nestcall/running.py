"""Running procedures until they fail, ask or end."""

from nestcall.expression import combine
from nestcall.words import LARGEST

FAILED = -1
# So many ways a call may have through rows, counted by the search and by the judge.
MOST_WAYS = 2000


class Stop:
    """Where a call stops.

    `state` is None if the call failed. `answers` is the number of answers that
    the open question allows, or 0 if the call has ended or failed. `frames`
    tells how to go on behind the question: for each running procedure, the
    innermost one last, its index, the index of a step, and `given`.
    """

    def __init__(self, state, frames, answers):
        self.state = state
        self.frames = frames
        self.answers = answers


class Memory:
    """The values of variables and the amounts while procedures change them."""

    def __init__(self, state):
        self.variables = [list(row) for row in state[0]]
        self.amounts = [list(row) for row in state[1]] + [list(state[2])]

    def frozen(self):
        """The state that this is now."""
        values = tuple([tuple(row) for row in self.variables])
        amounts = [tuple(row) for row in self.amounts]
        return (values, tuple(amounts[:-1]), amounts[-1])

    def value(self, expression, given):
        """The value of an expression of a program."""
        kind = expression[0]
        if kind == "number":
            return expression[1]
        if kind == "given":
            return given
        if kind == "variable":
            return self.variables[expression[1]][expression[2]]
        if kind == "amount":
            return min(self.amounts[expression[1]][expression[2]], LARGEST)
        return combine(kind, self.value(expression[1], given), self.value(expression[2], given))

    def assign(self, contract, variable, size, value):
        """Gives a variable a value modulo its size."""
        self.variables[contract][variable] = value % size

    def pay(self, payer, payee, asset, amount):
        """Pays an amount, and tells whether the payer has so much."""
        if self.amounts[payer][asset] < amount:
            return False
        self.amounts[payer][asset] -= amount
        self.amounts[payee][asset] += amount
        return True

    def does(self, step, value):
        """Does a `set`, `need` or `pay` with a value, and tells whether it succeeds."""
        if step[0] == "need":
            return value != 0
        if step[0] == "pay":
            return self.pay(step[1], step[2], step[3], value)
        self.assign(step[1], step[2], step[3], value)
        return True


def begin(program, state, place, number):
    """Calls a procedure with a number; returns the Stop."""
    return run(program, Memory(state), [(place, 0, number)])


def go_on(program, frames, state, answer):
    """Answers the question at which some frames wait, in a state; returns the Stop."""
    memory = Memory(state)
    place, at, given = frames[-1]
    step = program.procedures[place].steps[at]
    memory.assign(step[1], step[2], step[3], answer)
    return run(program, memory, list(frames[:-1]) + [(place, at + 1, given)])


def run(program, memory, frames):
    """Runs a list of frames, which it uses up; returns the Stop."""
    while len(frames) > 0:
        place, at, given = frames.pop()
        steps = program.procedures[place].steps
        at = run_steps(steps, at, given, memory)
        if at == FAILED:
            return Stop(None, (), 0)
        if at == len(steps):
            continue
        step = steps[at]
        if step[0] == "ask":
            frames.append((place, at, given))
            return Stop(memory.frozen(), tuple(frames), step[4])
        frames.append((place, at + 1, given))
        frames.append((step[1], 0, memory.value(step[3], given) % step[2]))
    return Stop(memory.frozen(), (), 0)


def run_steps(steps, at, given, memory):
    """Runs steps up to the next `ask` or `call`; returns its index.

    Without one it returns the number of steps, and FAILED if a step fails.
    """
    while at < len(steps):
        step = steps[at]
        if step[0] in ("ask", "call"):
            return at
        at += 1
        if step[0] == "jump":
            at += step[1]
            continue
        value = memory.value(step[-1], given)
        if step[0] == "skip":
            at += step[1] if value == 0 else 0
        elif not memory.does(step, value):
            return FAILED
    return at
