"""A machine that does the acts of outsiders with the instructions of a house."""

from nestcall.code import compiled
from nestcall.errors import BadAct
from nestcall.expression import OPERATORS, combine
from nestcall.running import Memory
from nestcall.state import first_state
from nestcall.words import LARGEST

# Among the holders of amounts the outsiders stand behind all contracts.
OUTSIDERS = -1


class Core:
    """A call that the machine runs: its memory, its stack of values, and where it is.

    `callers` are the places and given numbers of the procedures that wait for
    another one, `target` is the contract that a `move` pays, and `answers` the
    number of answers to the question at which the call has stopped, or 0.
    """

    def __init__(self, state, sizes, place, given):
        self.memory = Memory(state)
        self.sizes = sizes
        self.stack = []
        self.callers = []
        self.place = place
        self.given = given
        self.target = 0
        self.answers = 0
        self.ended = False

    def answered(self, state, answer):
        """Gets ready to go on behind a question, in a state that was left behind."""
        self.memory = Memory(state)
        self.stack.append(answer)
        self.answers = 0

    def step(self, instruction):
        """Runs an instruction, and tells whether it succeeds."""
        name, first, second = instruction
        self.place += 1
        run = INSTRUCTIONS[name]
        return run(self, first, second)

    def pay(self, payer, payee, asset):
        """Pays the last value, and tells whether the payer has so much."""
        return self.memory.pay(payer, payee, asset, self.stack.pop())


def run_push(core, number, _):
    """Puts a number on the stack."""
    core.stack.append(number)
    return True


def run_given(core, first, second):
    """Puts the number on the stack with which the procedure was called."""
    core.stack.append(core.given)
    return True


def run_load(core, contract, variable):
    """Puts the value of a variable on the stack."""
    core.stack.append(core.memory.variables[contract][variable])
    return True


def run_have(core, contract, asset):
    """Puts an amount of a contract on the stack."""
    core.stack.append(min(core.memory.amounts[contract][asset], LARGEST))
    return True


def run_out(core, _, asset):
    """Puts an amount of the outsiders on the stack."""
    return run_have(core, OUTSIDERS, asset)


def run_sign(core, index, _):
    """Combines the last two values on the stack."""
    right = core.stack.pop()
    left = core.stack.pop()
    core.stack.append(combine(OPERATORS[index], left, right))
    return True


def run_store(core, contract, variable):
    """Gives the last value to a variable."""
    core.memory.assign(contract, variable, core.sizes[contract][variable], core.stack.pop())
    return True


def run_need(core, first, second):
    """Fails if the last value is 0."""
    return core.stack.pop() != 0


def run_give(core, contract, asset):
    """Pays from a contract to the outsiders."""
    return core.pay(contract, OUTSIDERS, asset)


def run_get(core, contract, asset):
    """Pays from the outsiders to a contract."""
    return core.pay(OUTSIDERS, contract, asset)


def run_target(core, contract, _):
    """Chooses the contract that the next `move` pays."""
    core.target = contract
    return True


def run_move(core, contract, asset):
    """Pays from a contract to the chosen one."""
    return core.pay(contract, core.target, asset)


def run_enter(core, place, size):
    """Calls a procedure with the last value."""
    core.callers.append((core.place, core.given))
    core.place = place
    core.given = core.stack.pop() % size
    return True


def run_leave(core, first, second):
    """Goes back to the procedure that waits, or ends the call."""
    if len(core.callers) > 0:
        core.place, core.given = core.callers.pop()
    else:
        core.ended = True
    return True


def run_ask(core, answers, _):
    """Stops for an answer."""
    core.answers = answers
    return True


def run_skip(core, count, _):
    """Passes over some instructions if the last value is 0."""
    if core.stack.pop() == 0:
        core.place += count
    return True


def run_jump(core, count, _):
    """Passes over some instructions."""
    core.place += count
    return True


INSTRUCTIONS = {
    "push": run_push, "given": run_given, "load": run_load, "have": run_have, "out": run_out, "sign": run_sign,
    "store": run_store, "need": run_need, "give": run_give, "get": run_get, "target": run_target,
    "move": run_move, "enter": run_enter, "leave": run_leave, "ask": run_ask, "skip": run_skip, "jump": run_jump,
}


class Machine:
    """A house in which outsiders act from the beginning, run by its instructions. Raises TooLarge."""

    def __init__(self, house):
        self.state = first_state(house)
        self.failed = 0
        self.acts = 0
        self.steps = 0
        self._code = compiled(house)
        self._sizes = [[variable[1] for variable in contract[1]] for contract in house.contracts]
        self._numbers = shown_sizes(house)
        self._asking = []
        self._before = self.state

    def act(self, act):
        """Does an act. Raises BadAct, and changes nothing, if it cannot be done."""
        if not self._can(act):
            raise BadAct(self.acts)
        if act[0] == "answer":
            core = self._asking.pop()
            core.answered(self.state, act[1])
        else:
            if len(self._asking) == 0:
                self._before = self.state
            place = self._code.places[(act[1], act[2])]
            core = Core(self.state, self._sizes, place, act[3])
        self.acts += 1
        self._run(core)

    def _run(self, core):
        """Runs a call until it asks or ends; a failure undoes the outermost call."""
        while core.answers == 0 and not core.ended:
            self.steps += 1
            if not core.step(self._code.instructions[core.place]):
                self.failed += 1
                self.state = self._before
                self._asking = []
                return
        self.state = core.memory.frozen()
        if not core.ended:
            self._asking.append(core)

    def _can(self, act):
        """Whether an act can be done now."""
        if act[0] == "answer":
            return 0 <= act[1] < self.asked()
        return 0 <= act[3] < self._numbers.get((act[1], act[2]), 0)

    def asked(self):
        """The number of answers that the open question allows, or 0."""
        return self._asking[-1].answers if len(self._asking) > 0 else 0


def shown_sizes(house):
    """A dict from the (contract, procedure) that outsiders may call to their sizes."""
    sizes = {}
    for contract in house.contracts:
        for name, size, shown, _ in contract[3]:
            if shown:
                sizes[(contract[0], name)] = size
    return sizes
