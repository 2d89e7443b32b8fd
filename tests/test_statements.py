"""Point 4: the statements of procedures."""

import unittest

from tests.helper import TextChecks

HEAD = "asset a 1 asset b 2 contract c proc r 1 hidden end end contract d var x 5 0 var y 6 0 proc p 1 shown "
BARE = "contract c proc p 1 shown "


class KindsTest(TextChecks, unittest.TestCase):
    def block(self, words):
        """The block of the procedure with some statements."""
        return self.check_accepted(HEAD + words + " end end").contracts[1][3][0][3]

    def test_each_kind(self):
        one, x = ("number", 1), ("variable", "x")
        self.assertEqual(self.block("set x 1"), (("set", "x", one),))
        self.assertEqual(self.block("need x"), (("need", x),))
        self.assertEqual(self.block("give a x"), (("give", "a", x),))
        self.assertEqual(self.block("get b 1"), (("get", "b", one),))
        self.assertEqual(self.block("move c b x"), (("move", "c", "b", x),))
        self.assertEqual(self.block("ask y 7"), (("ask", "y", 7),))
        self.assertEqual(self.block("call c r x"), (("call", "c", "r", x),))
        self.assertEqual(self.block("if x need 1 end"), (("if", x, (("need", one),), ()),))
        self.assertEqual(
            self.block("if x need 1 else set y x give a 1 end"),
            (("if", x, (("need", one),), (("set", "y", x), ("give", "a", one))),))

    def test_several(self):
        self.assertEqual(
            self.block("need 0 set x given ask x 3"),
            (("need", ("number", 0)), ("set", "x", ("given",)), ("ask", "x", 3)))

    def test_no_statement(self):
        self.check_accepted(BARE + "end end")

    def test_other_words(self):
        for word in ("", "else", "given", "have", "mod", "x", "1", "shown", "proc", "var", "+", "Set", "need\n"):
            self.check_refused(HEAD + f">{word} end end")
            self.check_refused(HEAD + f"need 1 >{word} end end")
            self.check_refused(HEAD + f"if 1 >{word if word != 'else' else 'elif'} end end end")


class NamesTest(TextChecks, unittest.TestCase):
    def test_unknown_variables(self):
        for word in ("z", "a", "c", "d", "p", "r", "0", "given", "set", "", "end"):
            self.check_refused(HEAD + f"set >{word} 1")
            self.check_refused(HEAD + f"ask >{word} 1")

    def test_variables_of_another_contract(self):
        self.check_refused("contract c var x 2 0 end contract d var y 2 0 proc p 1 shown set >x 1 end end")
        self.check_refused("contract c var x 2 0 end contract d var y 2 0 proc p 1 shown ask >x 1 end end")

    def test_unknown_assets(self):
        for word in ("z", "x", "c", "d", "p", "0", "given", "", "end"):
            self.check_refused(HEAD + f"give >{word} 1")
            self.check_refused(HEAD + f"get >{word} 1")
            self.check_refused(HEAD + f"move c >{word} 1")

    def test_nothing_to_name(self):
        for word in ("set", "ask", "give", "get", "move", "call"):
            self.check_refused(BARE + f">{word}")
            self.check_refused(BARE + f"need 1 if 1 >{word} x 1 end end end")

    def test_assets_but_nothing_else(self):
        before = "asset a 1 contract c proc p 1 shown "
        self.check_accepted(before + "give a 1 get a 1 end end")
        for word in ("set", "ask", "move", "call"):
            self.check_refused(before + f">{word}")

    def test_variables_but_nothing_else(self):
        before = "contract c end contract d var x 2 0 proc p 1 shown "
        self.check_accepted(before + "set x 1 ask x 1 end end")
        for word in ("give", "get", "move", "call"):
            self.check_refused(before + f">{word}")


class MoveTest(TextChecks, unittest.TestCase):
    def test_before(self):
        self.check_accepted("asset a 1 contract c end contract d proc p 1 shown move c a 1 end end")
        text = "asset a 1 contract c end contract d end contract e proc p 1 shown "
        self.check_accepted(text + "move c a 1 move d a 1 end end")

    def test_own(self):
        self.check_refused("asset a 1 contract c end contract d proc p 1 shown move >d a 1 end end")
        self.check_refused("asset a 1 contract c proc p 1 shown >move c a 1 end end")

    def test_behind(self):
        self.check_refused("asset a 1 contract c end contract d proc p 1 shown move >e a 1 end end contract e end")
        self.check_refused("asset a 1 contract c proc p 1 shown >move d a 1 end end contract d end")

    def test_unknown(self):
        self.check_refused("asset a 1 contract c end contract d proc p 1 shown move >a a 1 end end")
        self.check_refused("asset a 1 contract c end contract d proc p 1 shown move >p a 1 end end")

    def test_without_assets(self):
        self.check_refused("contract c end contract d proc p 1 shown >move c a 1 end end")


class CallTest(TextChecks, unittest.TestCase):
    def test_before(self):
        self.check_accepted("contract c proc p 1 shown end proc q 1 shown call c p 0 end end")
        self.check_accepted("contract c proc p 1 hidden end end contract d proc q 1 shown call c p 0 end end")
        self.check_accepted("contract c proc p 1 hidden end end contract d proc p 1 shown call c p 0 end end")
        self.check_accepted(
            "contract c proc p 1 shown end proc q 1 shown end end"
            " contract d proc p 1 shown call c q 1 call c p 2 end proc q 1 shown call c p 3 end end")

    def test_own(self):
        self.check_refused("contract c proc p 1 shown >call c p 0 end end")
        self.check_refused("contract c proc q 1 shown end proc p 1 shown call c >p 0 end end")
        self.check_refused("contract c proc q 1 shown end end contract d proc p 1 shown call >d p 0 end end")

    def test_behind(self):
        self.check_refused("contract c proc p 1 shown >call c q 0 end proc q 1 shown end end")
        self.check_refused("contract c proc o 1 shown end proc p 1 shown call c >q 0 end proc q 1 shown end end")
        self.check_refused("contract c proc o 1 shown end proc p 1 shown call >d q 0 end end contract d end")

    def test_unknown(self):
        before = "contract c var x 2 0 proc o 1 shown end end contract d proc p 1 shown "
        for word in ("o", "p", "x", "e", "call", "0", "", "end"):
            self.check_refused(before + f"call >{word}")
        for word in ("c", "p", "x", "d", "call", "0", "", "end"):
            self.check_refused(before + f"call c >{word}")

    def test_contract_without_procedures(self):
        before = "contract c end contract d proc o 1 shown end proc p 1 shown "
        self.check_refused(before + "call >c")
        self.check_accepted(before + "call d o 1 end end")

    def test_callee_with_call(self):
        before = "contract c proc o 1 shown end proc q 1 shown call c o 0 end "
        self.check_refused(before + "proc p 1 shown call c >q 0 end end")
        self.check_accepted(before + "proc p 1 shown call c o 0 end end")
        self.check_refused(before + "end contract d proc p 1 shown call c >q 0 end end")

    def test_callee_with_call_within_an_if(self):
        calls = (
            "if 0 call c o 0 end", "if 0 else call c o 0 end", "if 0 need 1 if 1 call c o 0 end end",
            "need 1 if 0 need 1 else if 0 else call c o 0 end end need 1")
        for call in calls:
            before = f"contract c proc o 1 shown end proc q 1 shown {call} end "
            self.check_accepted(before + "end")
            self.check_refused(before + "proc p 1 shown call c >q 0 end end")
            self.check_refused(before + "proc p 1 shown if 1 call c >q 0 end end end")

    def test_contract_with_calling_procedures_only(self):
        before = "contract c proc o 1 shown end end contract d proc q 1 shown call c o 0 end "
        self.check_refused(before + "proc p 1 shown call >d q 0 end end")
        self.check_refused(before + "end contract e proc p 1 shown call >d q 0 end end")


class AskTest(TextChecks, unittest.TestCase):
    def test_answers(self):
        before = "contract c var x 2 0 proc p 1 shown "
        for count in (1, 2, 63, 64):
            self.check_accepted(before + f"ask x {count} end end")
        for count in ("0", "65", "100", "65535", "65536", "01", "-1", "x", "given", "", "end"):
            self.check_refused(before + f"ask x >{count} end end")

    def test_seventh_of_a_procedure(self):
        before = "contract c var x 2 0 proc p 1 shown"
        self.check_accepted(before + " ask x 1" * 6 + " end end")
        self.check_refused(before + " ask x 1" * 6 + " >ask")
        self.check_refused(before + " ask x 1" * 6 + " >ask x 1 end end")

    def test_seventh_of_a_house(self):
        contract = "var x 2 0 proc p 1 shown ask x 1 end proc q 1 hidden if 1 ask x 2 else ask x 3 end end end"
        before = f"contract c {contract} contract d {contract}"
        self.check_accepted(before)
        self.check_refused(before + " contract e var x 2 0 proc p 1 shown >ask")
        self.check_refused(before + " contract e var x 2 0 proc p 1 shown if 1 need 0 else >ask x 1 end end end")
        self.check_accepted(before + " contract e var x 2 0 proc p 1 shown set x 1 end end")


class IfTest(TextChecks, unittest.TestCase):
    def test_blocks(self):
        for words in ("if 1 end", "if 1 need 1 end", "if 1 else need 1 end", "if 1 need 1 else need 0 end",
                      "if 1 if 2 end end", "if 1 else if 2 end end", "if 1 if 2 else need 1 end else need 0 end"):
            self.check_accepted(BARE + words + " end end")

    def test_empty_else(self):
        self.check_refused(BARE + "if 1 need 1 else >end end end")
        self.check_refused(BARE + "if 1 else >end end end")
        self.check_refused(BARE + "if 1 if 2 need 1 else >end end end end")

    def test_second_else(self):
        self.check_refused(BARE + "if 1 need 1 else need 2 >else need 3 end end end")
        self.check_refused(BARE + "if 1 else >else")

    def test_else_without_if(self):
        self.check_refused(BARE + ">else need 1 end end")
        self.check_refused(BARE + "need 1 >else need 1 end end")
        self.check_refused(BARE + "if 1 end >else need 1 end end")

    def test_depth(self):
        for depth in (1, 5, 6):
            self.check_accepted(BARE + "if 1 " * depth + "end " * depth + "end end")
            self.check_accepted(BARE + "if 1 " * depth + "need 1 else need 2 end " + "end " * (depth - 1) + "end end")
            self.check_accepted(BARE + "if 1 else " * (depth - 1) + "if 1 " + "end " * depth + "end end")

    def test_too_deep(self):
        self.check_refused(BARE + "if 1 " * 6 + ">if")
        self.check_refused(BARE + "if 1 " * 6 + ">if 1 end end end end end end end end end")
        self.check_refused(BARE + "if 1 else " * 6 + ">if 1 end")
        self.check_refused(BARE + "if 1 " * 6 + "else >if")
        self.check_refused(BARE + "if 1 " * 6 + "need 1 >if")

    def test_depth_ends_with_an_if(self):
        deep = "if 1 " * 6 + "end " * 6
        self.check_accepted(BARE + deep + deep + "end end")
        self.check_accepted(BARE + "if 1 " * 5 + "if 1 end if 1 end " + "end " * 5 + "end end")
        self.check_refused(BARE + "if 1 " * 5 + "if 1 end if 1 >if")


class CountTest(TextChecks, unittest.TestCase):
    def test_plain(self):
        self.check_accepted(BARE + "need 1 " * 24 + "end end")
        self.check_refused(BARE + "need 1 " * 24 + ">need")
        self.check_refused(BARE + "need 1 " * 24 + ">need 1 end end")

    def test_every_kind_counts(self):
        kinds = ("set x 1", "need 1", "give a 1", "get a 1", "move c a 1", "ask x 1", "call c r 1", "if 1 end")
        for kind in kinds:
            self.check_accepted(HEAD + "need 1 " * 23 + kind + " end end")
            self.check_accepted(HEAD + kind + " need 1" * 23 + " end end")
            self.check_refused(HEAD + kind + " need 1" * 23 + " >need")
            first = kind.split(" ")[0]
            self.check_refused(HEAD + "need 1 " * 24 + ">" + first)

    def test_within_an_if(self):
        self.check_accepted(BARE + "if 1 " + "need 1 " * 23 + "end end end")
        self.check_refused(BARE + "if 1 " + "need 1 " * 23 + ">need 1 end end end")
        self.check_refused(BARE + "if 1 " + "need 1 " * 22 + "end need 2 >need 1 end end")
        self.check_accepted(BARE + "if 1 need 1 else " + "need 1 " * 22 + "end end end")
        self.check_refused(BARE + "if 1 need 1 else " + "need 1 " * 22 + ">need 1 end end end")
        self.check_refused(BARE + "if 1 " * 6 + "need 1 " * 18 + ">need")
        self.check_accepted(BARE + "if 1 " * 6 + "need 1 " * 18 + "end " * 6 + "end end")

    def test_no_room_behind_else(self):
        self.check_accepted(BARE + "need 1 " * 22 + "if 1 else need 1 end end end")
        self.check_refused(BARE + "need 1 " * 23 + "if 1 >else")
        self.check_refused(BARE + "need 1 " * 23 + "if 1 >else need 1 end end end")
        self.check_refused(BARE + "if 1 " + "need 1 " * 23 + ">else need 1 end end end")
        self.check_refused(BARE + "if 1 " + "need 1 " * 22 + "if 2 >else")
        self.check_refused(BARE + "if 1 " + "need 1 " * 22 + "if 2 end >else")

    def test_each_procedure_for_itself(self):
        full = " shown" + " need 1" * 24 + " end"
        self.check_accepted(f"contract c proc p 1{full} proc q 1{full} end contract d proc p 1{full} end")


if __name__ == "__main__":
    unittest.main()
