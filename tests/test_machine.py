"""Point 28: a machine does the acts of outsiders."""

import unittest
from random import Random

from nestcall.errors import BadAct, TooLarge
from nestcall.guards import guarded
from nestcall.house import read_house
from nestcall.machine import Machine
from nestcall.most import best_play
from nestcall.state import first_state
from nestcall.walk import Walk
from tests.acting import answer, bad_at, call
from tests.helper import Maker
from tests.reference import Fail, Store, calls_of, evaluate, find
from tests.small import SmallMaker
from tests.test_rows import OPEN_BANK, bank

DRAW = call("draw")
HEAD = (
    "asset iron 3 asset gold 4 contract shop var z 9 0 hold gold 5 proc low 3 hidden set z given end"
    " proc wait 1 hidden ask z 3 end end contract bank var x 9 0 var y 3 0 hold iron 6 "
)


def told(doing):
    """What a Walk and a Machine tell both."""
    return (doing.state, doing.failed, doing.acts, doing.asked())


class MachineChecks:
    """Checks of machines, for test cases."""

    def check_steps(self, statements, steps, acts=(call("p"),), failed=0):
        """The steps behind each act on a procedure p of these statements, with its `leave`."""
        text = f"{HEAD}proc p 5 shown {statements} end end".replace("  ", " ")
        house = read_house(text)
        machine, doing = Machine(house), Walk(house)
        self.assertEqual(machine.steps, 0)
        for act, count in zip(acts, steps if isinstance(steps, tuple) else (steps,), strict=True):
            machine.act(act)
            doing.act(act)
            self.assertEqual(machine.steps, count, (statements, act))
            self.assertEqual(told(machine), told(doing), (statements, act))
        self.assertEqual(machine.failed, failed, statements)
        self.assertEqual(house, read_house(text))
        return machine

    def check_bad(self, machine, act):
        """The act is refused, and nothing has changed."""
        before = told(machine) + (machine.steps,)
        self.assertEqual(bad_at(machine.act, act), machine.acts, act)
        self.assertEqual(told(machine) + (machine.steps,), before, act)


class BeginningTest(unittest.TestCase):
    def test_beginning(self):
        for text in ("", "asset gold 3", OPEN_BANK, HEAD + "end"):
            machine = Machine(read_house(text))
            self.assertEqual(told(machine) + (machine.steps,), (first_state(read_house(text)), 0, 0, 0, 0))


class StepsTest(MachineChecks, unittest.TestCase):
    def test_nothing(self):
        self.check_steps("", 1)

    def test_expressions(self):
        for words, count in (
                ("1", 1), ("x", 1), ("given", 1), ("have gold", 1), ("out iron", 1), ("+ 1 2", 3), ("- x + 1 2", 5),
                ("* * 1 2 / 3 4", 7), ("mod 1 < 2 = 3 4", 7)):
            self.check_steps(f"set x {words}", count + 2)

    def test_statements(self):
        self.check_steps("need 1", 3)
        self.check_steps("set y 7", 3)
        self.check_steps("give iron 2", 3)
        self.check_steps("get gold 2", 3)
        self.check_steps("move shop iron 2", 4)
        self.check_steps("set x 1 set x 2 need x", 7)

    def test_failures(self):
        """The instruction that fails counts, and nothing behind it."""
        self.check_steps("need 0", 2, failed=1)
        self.check_steps("need 0 set x 1", 2, failed=1)
        self.check_steps("give iron 7 set x 1", 2, failed=1)
        self.check_steps("get gold 5 need 1", 2, failed=1)
        self.check_steps("move shop iron 7 need 1", 3, failed=1)
        self.check_steps("set x 1 need - x 1", 2 + 4, failed=1)

    def test_if(self):
        self.check_steps("if 1 end", 3)
        self.check_steps("if 0 end", 3)
        self.check_steps("if 1 set x 1 end", 5)
        self.check_steps("if 0 set x 1 end", 3)
        self.check_steps("if + 1 2 set x 1 need x end", 9)

    def test_else(self):
        """The first block ends with a jump, which is a step."""
        self.check_steps("if 1 set x 1 else set x + 1 1 end", 6)
        self.check_steps("if 0 set x 1 else set x + 1 1 end", 7)
        self.check_steps("if 1 else set x 1 end", 4)
        self.check_steps("if 0 else set x 1 end", 5)

    def test_nested_if(self):
        text = "if {} if {} need 1 else need 2 need 3 end else need 4 end"
        self.check_steps(text.format(1, 1), 2 + 2 + 2 + 1 + 1 + 1)
        self.check_steps(text.format(1, 0), 2 + 2 + 4 + 1 + 1)
        self.check_steps(text.format(0, 1), 2 + 2 + 1)

    def test_question(self):
        """The `store` counts when the answer is given."""
        machine = self.check_steps("ask x 3", (1, 3), (call("p"), answer(2)))
        self.assertEqual(machine.state[0], ((0,), (2, 0)))
        self.check_steps("set x 1 ask x 3 set y 1", (3, 7), (call("p"), answer(2)))
        self.check_steps("ask x 3 ask y 3 need 1", (1, 3, 7), (call("p"), answer(2), answer(1)))

    def test_failure_behind_a_question(self):
        self.check_steps("ask x 3 need x set y 1", (1, 4), (call("p"), answer(0)), failed=1)
        self.check_steps("ask x 3 need x set y 1", (1, 7), (call("p"), answer(1)))

    def test_questions_within_each_other(self):
        acts = (call("p"), call("p", 1), answer(1), answer(2), call("p", 2))
        self.check_steps("set y given ask x 3", (3, 6, 8, 10, 13), acts)

    def test_failure_within_a_question(self):
        """The whole call is undone, but not its steps."""
        acts = (call("p"), call("p", 3), call("p"))
        machine = self.check_steps("need < given 2 set x 5 ask y 3", (7, 11, 18), acts, failed=1)
        self.assertEqual((machine.asked(), machine.acts), (3, 3))

    def test_call(self):
        """`enter` is a step, and the called procedure ends with one."""
        machine = self.check_steps("call shop low + given 4", 4 + 3 + 1)
        self.assertEqual(machine.state[0][0], (1,))
        self.check_steps("call shop low 1 call shop low 2 need 1", 2 + 3 + 2 + 3 + 2 + 1)

    def test_question_in_a_called_procedure(self):
        machine = self.check_steps("call shop wait 9 set x given", (3, 3 + 2 + 3), (call("p", 4), answer(2)))
        self.assertEqual(machine.state[0], ((2,), (4, 0)))

    def test_given_behind_a_call(self):
        self.assertEqual(self.check_steps("call shop low 2 set x given", 2 + 3 + 3, (call("p", 4),)).state[0], ((2,), (4, 0)))

    def test_open_bank(self):
        machine = Machine(read_house(OPEN_BANK))
        steps = []
        for act in best_play(read_house(OPEN_BANK), [1]):
            machine.act(act)
            steps.append(machine.steps)
        # load need, push give, ask; then store, push store, leave.
        self.assertEqual(steps, [5, 10, 15, 19, 23, 27])
        self.assertEqual(machine.state, bank(0, 0, 3))

    def test_steps_of_a_guarded_house(self):
        house = guarded(read_house("asset gold 1 contract a proc p 1 shown end end"), [("lock", "a"), ("floor", "a", "gold", 0)])
        machine = Machine(house)
        machine.act(("call", "a", "p", 0))
        self.assertEqual((machine.steps, machine.failed), (4 + 2 + 2 + 6 + 1, 0))


class RefusedTest(MachineChecks, unittest.TestCase):
    TEXT = HEAD + "proc p 5 shown ask x 3 end proc f 1 shown need 0 end proc q 2 hidden set x given end end"
    WRONG = (
        call("p", 5), call("p", -1), call("p", 65536), call("q"), call("z"), call("low", 0, "shop"), call("p", 0, "club"),
        call("p", 0, "shop"), call("bank", 0, "p"), answer(-1), answer(3), answer(64))

    def test_refused_acts(self):
        machine = Machine(read_house(self.TEXT))
        for act in (None, call("p"), call("p", 4), answer(2), call("f"), call("f"), call("p")):
            if act is not None:
                machine.act(act)
            for wrong in self.WRONG:
                self.check_bad(machine, wrong)
            if machine.asked() == 0:
                self.check_bad(machine, answer(0))
        self.assertEqual((machine.acts, machine.failed, machine.asked()), (6, 2, 3))

    def test_at(self):
        machine = Machine(read_house(self.TEXT))
        for at in range(4):
            with self.assertRaises(BadAct) as caught:
                machine.act(call("q"))
            self.assertEqual(caught.exception.at, at)
            machine.act(call("f"))


class TwoMachinesTest(MachineChecks, unittest.TestCase):
    def test_in_turn(self):
        house = read_house(OPEN_BANK)
        one, other, alone = Machine(house), Machine(house), Machine(house)
        acts = [DRAW, DRAW, answer(0), answer(0)]
        for act in acts:
            alone.act(act)
        one.act(DRAW)
        self.assertEqual(other.state, bank(1, 3, 0))
        other.act(DRAW)
        one.act(DRAW)
        other.act(answer(0))
        self.assertEqual((one.state, other.state), (bank(1, 1, 2), bank(0, 2, 1)))
        self.assertEqual((one.asked(), other.asked()), (1, 0))
        other.act(DRAW)
        one.act(answer(0))
        one.act(answer(0))
        self.assertEqual(told(one) + (one.steps,), told(alone) + (alone.steps,))
        self.assertEqual(told(other), (bank(0, 2, 1), 1, 3, 0))
        self.assertEqual(house, read_house(OPEN_BANK))

    def test_states_are_kept(self):
        machine = Machine(read_house(OPEN_BANK))
        states = []
        for act in (DRAW, DRAW, answer(0)):
            states.append(machine.state)
            machine.act(act)
        self.assertEqual(states, [bank(1, 3, 0), bank(1, 2, 1), bank(1, 1, 2)])


def size_of(expression):
    """The number of operators and of parts without one."""
    return 1 + sum(size_of(part) for part in expression if isinstance(part, tuple))


class SlowSteps:
    """Counts the steps of acts by the statements that run, straight from the data of a house."""

    def __init__(self, house):
        self.store = Store(house, first_state(house))
        self.open = []
        self.before = None
        self.steps = 0

    def act(self, act):
        try:
            if act[0] == "answer":
                going = self.open.pop()
                self.steps += 1
                going.send(act[1])
            else:
                if not self.open:
                    self.before = self.store.state()
                going = self.procedure(*act[1:])
                next(going)
            self.open.append(going)
        except StopIteration:
            pass
        except Fail:
            self.open = []
            self.store.load(self.before)

    def procedure(self, contract, name, given):
        yield from self.block(contract, given, find(find(self.store.house.contracts, contract)[3], name)[3])
        self.steps += 1

    def block(self, contract, given, block):
        row = find(self.store.house.contracts, contract)
        for statement in block:
            kind = statement[0]
            if kind == "ask":
                self.steps += 1
                value = yield
                self.store.values[contract][statement[1]] = value % find(row[1], statement[1])[1]
                continue
            expression = statement[1] if kind == "if" else statement[-1]
            value = evaluate(self.store, contract, given, expression)
            self.steps += size_of(expression) + (2 if kind == "move" else 1)
            if kind == "if":
                yield from self.block(contract, given, statement[2 if value else 3])
                self.steps += 1 if value and statement[3] else 0
            elif kind == "call":
                size = find(find(self.store.house.contracts, statement[1])[3], statement[2])[1]
                yield from self.procedure(statement[1], statement[2], value % size)
            elif kind == "set":
                self.store.values[contract][statement[1]] = value % find(row[1], statement[1])[1]
            elif kind == "need":
                if not value:
                    raise Fail
            else:
                payer = None if kind == "get" else contract
                payee = {"give": None, "get": contract, "move": statement[1]}[kind]
                self.store.pay(payer, payee, statement[-2], value)


class ComparedTest(unittest.TestCase):
    def check_acts(self, house, seed, count):
        """Acts at random by a machine, a Walk and SlowSteps; returns the greatest depth and the failures."""
        random = Random(seed)
        machine, doing, slow = Machine(house), Walk(house), SlowSteps(house)
        calls = calls_of(house) + [("call", "bank", "r", 0)]
        deepest = 0
        for _ in range(count):
            act = random.choice(calls)
            if doing.asked() and random.random() < 0.6:
                act = answer(random.randint(-1, doing.asked()))
            elif random.random() < 0.1:
                act = act[:3] + (act[3] + random.choice((-1, 1)),)
            can = doing.can(act)
            steps = machine.steps
            self.assertEqual(bad_at(machine.act, act), None if can else doing.acts, (seed, act))
            if can:
                doing.act(act)
                slow.act(act)
            else:
                self.assertEqual(machine.steps, steps)
            self.assertEqual(told(machine), told(doing), (seed, act))
            self.assertEqual(machine.steps, slow.steps, (seed, act))
            deepest = max(deepest, doing.depth())
        return deepest, doing.failed

    def guarded_house(self, house, seed):
        """The house with some guards."""
        guards = []
        for at, contract in enumerate(house.contracts):
            if (seed + at) % 3 == 0:
                guards.append(("lock", contract[0]))
            guards += [("floor", contract[0], name, (seed + at) % 4 - 1) for name, _ in house.assets][:at + 1]
            guards += [("hide", contract[0], row[0]) for row in contract[3] if row[2]][:seed % 2]
        return guarded(house, guards)

    def test_small_houses(self):
        seen = [self.check_acts(read_house(SmallMaker(seed).house()), seed, 30) for seed in range(300)]
        self.assertGreater(len([1 for depth, _ in seen if depth > 2]), 30)
        self.assertGreater(len([1 for _, failed in seen if failed > 2]), 30)

    def test_guarded_houses(self):
        seen = [self.check_acts(self.guarded_house(read_house(SmallMaker(seed).house()), seed), seed, 30) for seed in range(300)]
        self.assertGreater(len([1 for _, failed in seen if failed > 2]), 30)

    def test_large_houses(self):
        tried = 0
        for seed in range(200):
            house = read_house(Maker(seed).house())
            try:
                Machine(house)
            except TooLarge as error:
                self.assertEqual(error.what, "code")
                continue
            self.check_acts(house, seed, 20)
            tried += 1
        self.assertGreater(tried, 150)


if __name__ == "__main__":
    unittest.main()
