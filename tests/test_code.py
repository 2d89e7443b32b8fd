"""Point 27: compiling houses to instructions."""

import unittest

from nestcall.code import Code, compiled
from nestcall.errors import TooLarge
from nestcall.guards import guarded
from nestcall.house import read_house
from nestcall.machine import Machine
from tests.helper import OPERATORS, Maker
from tests.small import SmallMaker

LEAVE = ("leave", 0, 0)
# Contract 1, whose variables are x and y; gold has the index 1.
HEAD = (
    "asset iron 0 asset gold 0 contract shop proc low 7 hidden end proc deal 9 shown end end"
    " contract bank var x 9 0 var y 3 0 "
)


def push(number):
    return ("push", number, 0)


def sign(word):
    return ("sign", OPERATORS.index(word), 0)


def code_of(statements):
    """The instructions of a procedure of the bank, without its `leave` and what stands before it."""
    found = compiled(read_house(f"{HEAD}proc p 5 shown {statements} end end".replace("  ", " ")))
    place = found.places[("bank", "p")]
    assert place == 2 and found.instructions[:2] == (LEAVE, LEAVE) and found.instructions[-1] == LEAVE
    return list(found.instructions[place:-1])


class ExpressionTest(unittest.TestCase):
    def check(self, expression, *instructions):
        self.assertEqual(code_of(f"need {expression}"), list(instructions) + [("need", 0, 0)], expression)

    def test_leaves(self):
        for number in (0, 1, 7, 65535):
            self.check(str(number), push(number))
        self.check("given", ("given", 0, 0))
        self.check("x", ("load", 1, 0))
        self.check("y", ("load", 1, 1))
        self.check("have iron", ("have", 1, 0))
        self.check("have gold", ("have", 1, 1))
        self.check("out iron", ("out", 1, 0))
        self.check("out gold", ("out", 1, 1))

    def test_operators(self):
        for number, word in enumerate(("+", "-", "*", "/", "mod", "<", "=")):
            self.check(f"{word} 5 x", push(5), ("load", 1, 0), ("sign", number, 0))

    def test_nested(self):
        self.check("- + 1 x * given 2", push(1), ("load", 1, 0), sign("+"), ("given", 0, 0), push(2), sign("*"), sign("-"))
        self.check("mod 1 < 2 / 3 4", push(1), push(2), push(3), push(4), sign("/"), sign("<"), sign("mod"))
        self.check("= = 1 2 out gold", push(1), push(2), sign("="), ("out", 1, 1), sign("="))

    def test_the_own_contract(self):
        found = compiled(read_house("asset a 1 contract k var x 2 0 proc p 1 shown need + x - have a out a end end"))
        self.assertEqual(found.instructions[:4], (("load", 0, 0), ("have", 0, 0), ("out", 0, 0), sign("-")))


class StatementTest(unittest.TestCase):
    def check(self, statements, *instructions):
        self.assertEqual(code_of(statements), list(instructions), statements)

    def test_set(self):
        self.check("set x 4", push(4), ("store", 1, 0))
        self.check("set y + x 1", ("load", 1, 0), push(1), sign("+"), ("store", 1, 1))

    def test_need(self):
        self.check("need x", ("load", 1, 0), ("need", 0, 0))

    def test_payments(self):
        self.check("give gold 4", push(4), ("give", 1, 1))
        self.check("give iron 4", push(4), ("give", 1, 0))
        self.check("get gold x", ("load", 1, 0), ("get", 1, 1))
        self.check("get iron 0", push(0), ("get", 1, 0))
        self.check("move shop gold 4", push(4), ("target", 0, 0), ("move", 1, 1))
        self.check("move shop iron out gold", ("out", 1, 1), ("target", 0, 0), ("move", 1, 0))

    def test_move_to_another_contract(self):
        text = "asset a 0 contract k end contract l end contract m proc p 1 shown move l a 3 move k a 4 end end"
        expected = (push(3), ("target", 1, 0), ("move", 2, 0), push(4), ("target", 0, 0), ("move", 2, 0), LEAVE)
        self.assertEqual(compiled(read_house(text)).instructions, expected)

    def test_ask(self):
        self.check("ask x 4", ("ask", 4, 0), ("store", 1, 0))
        self.check("ask y 64", ("ask", 64, 0), ("store", 1, 1))

    def test_call(self):
        """The place and the size of the procedure, hidden or shown."""
        self.check("call shop low 4", push(4), ("enter", 0, 7))
        self.check("call shop deal + x 1", ("load", 1, 0), push(1), sign("+"), ("enter", 1, 9))

    def test_call_of_a_later_place(self):
        text = (
            "contract k proc a 3 shown need 1 end proc b 4 hidden need 1 need 0 end end"
            " contract l proc a 5 shown end proc c 6 shown call l a 0 call k b 1 call k a 2 end end")
        found = compiled(read_house(text))
        self.assertEqual(found.places, {("k", "a"): 0, ("k", "b"): 3, ("l", "a"): 8, ("l", "c"): 9})
        expected = (push(0), ("enter", 8, 5), push(1), ("enter", 3, 4), push(2), ("enter", 0, 3), LEAVE)
        self.assertEqual(found.instructions[9:], expected)

    def test_several_statements(self):
        self.check("set x 1 need 2 ask y 3", push(1), ("store", 1, 0), push(2), ("need", 0, 0), ("ask", 3, 0), ("store", 1, 1))

    def test_nothing(self):
        self.check("")


class IfTest(unittest.TestCase):
    def check(self, statements, *instructions):
        self.assertEqual(code_of(statements), list(instructions), statements)

    def test_without_else(self):
        self.check("if x end", ("load", 1, 0), ("skip", 0, 0))
        self.check("if x set y 1 end", ("load", 1, 0), ("skip", 2, 0), push(1), ("store", 1, 1))
        self.check("if + 1 2 need 3 need 4 end need 5", push(1), push(2), sign("+"), ("skip", 4, 0),
                   push(3), ("need", 0, 0), push(4), ("need", 0, 0), push(5), ("need", 0, 0))

    def test_with_else(self):
        self.check("if x set y 1 else set y + 1 1 end", ("load", 1, 0), ("skip", 3, 0), push(1), ("store", 1, 1),
                   ("jump", 4, 0), push(1), push(1), sign("+"), ("store", 1, 1))

    def test_empty_first_block(self):
        self.check("if x else need 1 end", ("load", 1, 0), ("skip", 1, 0), ("jump", 2, 0), push(1), ("need", 0, 0))

    def test_nested(self):
        self.check("if 1 if 2 need 3 end end", push(1), ("skip", 4, 0), push(2), ("skip", 2, 0), push(3), ("need", 0, 0))
        self.check("if 1 if 2 need 3 else need 4 end else if 5 end end",
                   push(1), ("skip", 8, 0), push(2), ("skip", 3, 0), push(3), ("need", 0, 0), ("jump", 2, 0),
                   push(4), ("need", 0, 0), ("jump", 2, 0), push(5), ("skip", 0, 0))
        self.check("if 1 else if 2 else if 3 else need 4 end end end",
                   push(1), ("skip", 1, 0), ("jump", 8, 0), push(2), ("skip", 1, 0), ("jump", 5, 0),
                   push(3), ("skip", 1, 0), ("jump", 2, 0), push(4), ("need", 0, 0))

    def test_questions_and_calls_within(self):
        self.check("if x ask y 3 else call shop low 1 move shop gold 2 end",
                   ("load", 1, 0), ("skip", 3, 0), ("ask", 3, 0), ("store", 1, 1), ("jump", 5, 0),
                   push(1), ("enter", 0, 7), push(2), ("target", 0, 0), ("move", 1, 1))


class CodeTest(unittest.TestCase):
    def check_form(self, house, found):
        """The instructions are triples; the procedures stand one after the other."""
        self.assertIs(type(found), Code)
        self.assertIs(type(found.instructions), tuple)
        self.assertIs(type(found.places), dict)
        for instruction in found.instructions:
            self.assertEqual([type(part) for part in instruction], [str, int, int])
            self.assertIs(type(instruction), tuple)
        names = [(contract[0], row[0]) for contract in house.contracts for row in contract[3]]
        self.assertEqual(list(found.places), names)
        places = list(found.places.values())
        self.assertEqual(places, sorted(set(places)))
        self.assertEqual(len([1 for name, _, _ in found.instructions if name == "leave"]), len(names))
        if names:
            self.assertEqual(places[0], 0)
        for place in places[1:] + [len(found.instructions)]:
            self.assertTrue(place == 0 or found.instructions[place - 1] == LEAVE)

    def test_nothing(self):
        for text in ("", "asset gold 3", "contract bank end contract shop var x 3 0 end"):
            found = compiled(read_house(text))
            self.assertEqual((found.instructions, found.places), ((), {}))
            self.check_form(read_house(text), found)

    def test_procedures(self):
        text = "contract a proc p 1 shown need 1 end proc q 1 hidden end end contract b end contract c proc p 1 shown end end"
        found = compiled(read_house(text))
        self.assertEqual(found.instructions, (push(1), ("need", 0, 0), LEAVE, LEAVE, LEAVE))
        self.assertEqual(found.places, {("a", "p"): 0, ("a", "q"): 3, ("c", "p"): 4})

    def test_made_houses(self):
        tried = 0
        for seed in range(200):
            for maker in (Maker, SmallMaker):
                house = read_house(maker(seed).house())
                try:
                    found = compiled(house)
                except TooLarge:
                    continue
                self.check_form(house, found)
                self.assertEqual(house, read_house(maker(seed).house()))
                self.assertEqual(compiled(house).instructions, found.instructions)
                tried += 1
        self.assertGreater(tried, 350)

    def test_new_dicts(self):
        house = read_house("contract a proc p 1 shown end end")
        compiled(house).places.clear()
        self.assertEqual(compiled(house).places, {("a", "p"): 0})

    def test_guarded_houses(self):
        """The checks of guards are compiled like all others; a number may be of any size."""
        house = read_house("asset gold 1 contract a var x 2 0 proc p 1 shown set x 1 end end")
        found = compiled(guarded(house, [("floor", "a", "gold", -70000), ("lock", "a"), ("floor", "a", "gold", 99999)]))
        lock = [("load", 0, 1), push(0), sign("="), ("need", 0, 0), push(1), ("store", 0, 1)]
        floors = [("have", 0, 0), push(-70000), sign("<"), push(0), sign("="), ("need", 0, 0),
                  ("have", 0, 0), push(99999), sign("<"), push(0), sign("="), ("need", 0, 0)]
        middle = [push(1), ("store", 0, 0)]
        self.assertEqual(list(found.instructions), lock + middle + [push(0), ("store", 0, 1)] + floors + [LEAVE])


class TooLargeTest(unittest.TestCase):
    def text(self, count):
        """A house whose code has so many instructions."""
        contracts = []
        for name in "abcd":
            procedures = []
            for procedure in "pqrstu":
                block = ""
                # A procedure takes its `leave`, and 20 instructions for each of up to 23 statements.
                statements = max(0, min(23, (count - 1) // 20))
                if count > 0:
                    block = "need + + + + + + + + + 1 1 1 1 1 1 1 1 1 1 " * statements
                    count -= 20 * statements + 1
                    if count > 0 and count < 20 and count % 2 == 0:
                        block += "need " + "+ " * ((count - 2) // 2) + "1 " * ((count - 2) // 2 + 1)
                        count = 0
                    procedures.append(f"proc {procedure} 1 shown {block}end")
            contracts.append(f"contract {name} {' '.join(procedures)} end".replace("  ", " "))
        assert count == 0, count
        return " ".join(contracts)

    def what_of(self, asking, text):
        house = read_house(text)
        try:
            asking(house)
        except TooLarge as error:
            return error.what
        return None

    def check(self, count, what):
        text = self.text(count)
        self.assertEqual(self.what_of(compiled, text), what, count)
        self.assertEqual(self.what_of(Machine, text), what, count)
        if what is None:
            self.assertEqual(len(compiled(read_house(text)).instructions), count)

    def test_limit(self):
        for count in (1, 462, 923, 4610, 4999, 5000):
            self.check(count, None)
        for count in (5001, 5002, 5461):
            self.check(count, "code")

    def test_far_more(self):
        value = "+ " * 9 + "1 " * 10
        contract = "contract {} " + "".join(f"proc {name} 1 shown " + f"need {value}" * 24 + "end " for name in "pqrstu") + "end"
        text = " ".join(contract.format(name) for name in "abcd")
        self.assertEqual(self.what_of(compiled, text), "code")
        self.assertEqual(self.what_of(Machine, text), "code")


if __name__ == "__main__":
    unittest.main()
