"""Points 3 and 6: the text of a house, but for statements."""

import unittest

from nestcall.house import read_house
from tests.helper import TextChecks, refusal


def assets(count):
    return " ".join(f"asset a{k} {k}" for k in range(count))


class AssetsTest(TextChecks, unittest.TestCase):
    def test_counts(self):
        for count in range(4):
            house = self.check_accepted(assets(count))
            self.assertEqual(house.assets, tuple((f"a{k}", k) for k in range(count)))
            self.assertEqual(house.contracts, ())

    def test_one_more(self):
        self.check_refused(assets(3) + " >asset")
        self.check_refused(assets(3) + " >asset a9 1")
        self.check_accepted(assets(3) + " contract c end")

    def test_amounts(self):
        for amount in ("0", "1", "65535"):
            self.check_accepted(f"asset a {amount}")
        for amount in ("65536", "00", "01", "-1", "100000", "a", "", "end", "1\n"):
            self.check_refused(f"asset a >{amount}")

    def test_names(self):
        for name in ("a", "abcdefghijkl", "z9", "assets", "when"):
            self.check_accepted(f"asset {name} 1")
        for name in ("abcdefghijklm", "9z", "A", "asset", "mod", "", "0", "a\n", "+", "end"):
            self.check_refused(f"asset >{name} 1")

    def test_same_name_twice(self):
        self.check_refused("asset a 1 asset >a 1")
        self.check_refused("asset a 1 asset b 1 asset >a 2")
        self.check_refused("asset b 1 asset a 1 asset >a 2")

    def test_behind_a_contract(self):
        self.check_refused("contract c end >asset a 1")
        self.check_refused("asset a 1 contract c >asset")


class ContractsTest(TextChecks, unittest.TestCase):
    def test_counts(self):
        for count in range(5):
            text = " ".join(f"contract c{k} end" for k in range(count))
            house = self.check_accepted(text)
            self.assertEqual(house.contracts, tuple((f"c{k}", (), (), ()) for k in range(count)))

    def test_one_more(self):
        four = "contract c end contract d end contract e end contract f end"
        self.check_refused(four + " >contract")
        self.check_refused(four + " >contract g end")

    def test_names(self):
        self.check_accepted("contract abcdefghijkl end")
        for name in ("abcdefghijklm", "contract", "end", "7", "", "C"):
            self.check_refused(f"contract >{name} end")

    def test_same_name_twice(self):
        self.check_refused("contract c end contract >c end")
        self.check_refused("contract c end contract d end contract >c end")

    def test_order_of_parts(self):
        self.check_refused("asset a 1 contract c hold a 1 >var x 2 0 end")
        self.check_refused("contract c proc p 1 shown end >var x 2 0 end")
        self.check_refused("asset a 1 contract c proc p 1 shown end >hold a 1 end")
        self.check_accepted("asset a 1 contract c var x 2 0 hold a 1 proc p 1 shown end end")

    def test_words_behind_a_whole_house(self):
        self.check_refused("asset a 1 >end")
        self.check_refused("asset a 1 >x")
        self.check_refused("contract c end >end")
        self.check_refused("contract c end >proc")
        self.check_refused("contract c end >asset")
        self.check_refused("contract c end > contract d end")
        self.check_refused("contract c end >contracts d end")
        self.check_accepted("contract c end contract d end")


class VariablesTest(TextChecks, unittest.TestCase):
    def test_counts(self):
        for count in range(7):
            words = "".join(f" var x{k} {k + 2} {k}" for k in range(count))
            house = self.check_accepted(f"contract c{words} end")
            self.assertEqual(house.contracts[0][1], tuple((f"x{k}", k + 2, k) for k in range(count)))

    def test_one_more(self):
        words = "".join(f" var x{k} 2 0" for k in range(6))
        self.check_refused(f"contract c{words} >var")
        self.check_refused(f"contract c{words} >var y 1 0 end")
        self.check_accepted(f"contract c{words} end contract d{words} end")

    def test_sizes(self):
        for size in ("1", "2", "65534", "65535"):
            self.check_accepted(f"contract c var x {size} 0 end")
        for size in ("0", "65536", "70000", "100000", "01", "-1", "x", "", "end"):
            self.check_refused(f"contract c var x >{size} 0 end")

    def test_first_values(self):
        for size, first in ((1, 0), (2, 1), (10, 9), (65535, 65534), (65535, 0)):
            self.check_accepted(f"contract c var x {size} {first} end")
        for size, first in ((1, 1), (2, 2), (10, 10), (10, 65535), (65535, 65535), (65535, 65536)):
            self.check_refused(f"contract c var x {size} >{first} end")
        for first in ("00", "-1", "y", "", "end"):
            self.check_refused(f"contract c var x 10 >{first} end")

    def test_names(self):
        self.check_accepted("contract c var lock 2 0 end")
        for name in ("abcdefghijklm", "var", "given", "7", "", "X"):
            self.check_refused(f"contract c var >{name} 2 0 end")

    def test_same_name_twice(self):
        self.check_refused("contract c var x 2 0 var >x 2 0 end")
        self.check_refused("contract c var x 2 0 var y 2 0 var >x 3 1 end")
        self.check_accepted("contract c var x 2 0 end contract d var x 2 0 end")


class HoldingsTest(TextChecks, unittest.TestCase):
    def test_counts_and_order(self):
        text = assets(3) + " contract c"
        self.check_accepted(text + " end")
        self.check_accepted(text + " hold a1 5 end")
        house = self.check_accepted(text + " hold a2 5 hold a0 0 hold a1 65535 end")
        self.assertEqual(house.contracts[0][2], (("a2", 5), ("a0", 0), ("a1", 65535)))

    def test_amounts(self):
        for amount in ("0", "1", "65535"):
            self.check_accepted(f"asset a 1 contract c hold a {amount} end")
        for amount in ("65536", "00", "07", "123456", "-1", "a", ""):
            self.check_refused(f"asset a 1 contract c hold a >{amount} end")

    def test_twice(self):
        self.check_refused("asset a 1 asset b 1 contract c hold a 1 hold >a 1 end")
        self.check_refused("asset a 1 asset b 1 asset d 1 contract c hold a 1 hold b 1 hold >a 1 end")
        self.check_accepted("asset a 1 contract c hold a 1 end contract d hold a 1 end")

    def test_nothing_left_to_hold(self):
        self.check_refused("asset a 1 contract c hold a 1 >hold")
        self.check_refused("asset a 1 contract c hold a 1 >hold a 1 end")
        self.check_refused("contract c >hold a 1 end")
        self.check_refused(assets(3) + " contract c hold a0 1 hold a1 1 hold a2 1 >hold")

    def test_unknown_asset(self):
        self.check_refused("asset a 1 contract c hold >b 1 end")
        self.check_refused("asset a 1 contract c var x 2 0 hold >x 1 end")
        self.check_refused("asset a 1 contract c hold >c 1 end")
        self.check_refused("asset a 1 contract c hold >1 1 end")


class ProceduresTest(TextChecks, unittest.TestCase):
    def test_counts(self):
        for count in range(7):
            words = "".join(f" proc p{k} {k + 1} shown end" for k in range(count))
            house = self.check_accepted(f"contract c{words} end")
            self.assertEqual(house.contracts[0][3], tuple((f"p{k}", k + 1, True, ()) for k in range(count)))

    def test_one_more(self):
        words = "".join(f" proc p{k} 1 hidden end" for k in range(6))
        self.check_refused(f"contract c{words} >proc")
        self.check_refused(f"contract c{words} >proc q 1 shown end end")
        self.check_accepted(f"contract c{words} end contract d{words} end")

    def test_sizes(self):
        for size in ("1", "2", "63", "64"):
            self.check_accepted(f"contract c proc p {size} shown end end")
        for size in ("0", "65", "100", "65535", "65536", "01", "-1", "shown", "", "x"):
            self.check_refused(f"contract c proc p >{size} shown end end")

    def test_shown_or_hidden(self):
        house = self.check_accepted("contract c proc p 1 shown end proc q 1 hidden end end")
        self.assertIs(house.contracts[0][3][0][2], True)
        self.assertIs(house.contracts[0][3][1][2], False)
        for word in ("end", "Shown", "show", "", "need", "1", "x"):
            self.check_refused(f"contract c proc p 1 >{word} end end")

    def test_names(self):
        self.check_accepted("contract c proc abcdefghijkl 1 shown end end")
        for name in ("abcdefghijklm", "proc", "shown", "1", "", "P"):
            self.check_refused(f"contract c proc >{name} 1 shown end end")

    def test_same_name_twice(self):
        self.check_refused("contract c proc p 1 shown end proc >p 1 shown end end")
        self.check_refused("contract c proc p 1 shown end proc q 1 shown end proc >p 2 hidden end end")
        self.check_accepted("contract c proc p 1 shown end end contract d proc p 1 shown end end")

    def test_shared_names(self):
        house = self.check_accepted(
            "asset x 1 contract x var x 3 2 hold x 5 proc x 2 shown set x + have x x give x out x end end")
        self.assertEqual(house.contracts[0][3][0][3], (
            ("set", "x", ("+", ("have", "x"), ("variable", "x"))), ("give", "x", ("out", "x"))))

    def test_full_house(self):
        contract = "".join(f" var x{k} 65535 65534" for k in range(6))
        contract += "".join(f" hold a{k} 65535" for k in range(3))
        contract += "".join(f" proc p{k} 64 shown" + " need 1" * 24 + " end" for k in range(6))
        text = assets(3) + "".join(f" contract c{k}{contract} end" for k in range(4))
        self.check_accepted(text)
        self.check_refused(text + " >contract")


class EmptyWordsTest(TextChecks, unittest.TestCase):
    def test_empty_text(self):
        house = self.check_accepted("")
        self.assertEqual((house.assets, house.contracts), ((), ()))

    def test_spaces(self):
        self.check_refused("> ")
        self.check_refused("> asset a 1")
        self.check_refused("asset > a 1")
        self.check_refused("asset a 1 > contract c end")
        self.check_refused("asset a 1 contract c end > x")

    def test_space_at_the_end(self):
        self.assertEqual(refusal("asset a 1 "), 3)
        self.assertEqual(refusal("asset a "), 2)
        self.assertEqual(refusal(" "), 0)
        self.assertEqual(refusal("contract c end "), 3)
        self.assertEqual(refusal("contract c end  "), 3)

    def test_newlines_and_tabs(self):
        self.check_refused(">\n")
        self.check_refused(">asset\ta 1")
        self.check_refused("asset a >1\ncontract c end")
        self.check_refused("asset a 1 contract c >end\n")
        self.check_refused("contract c proc p 1 shown >need\t1 end end")

    def test_first_word(self):
        for word in ("end", "var", "hold", "proc", "a", "0", "Asset", "assets", "+", "?"):
            self.check_refused(f">{word} a 1")

    def test_reading_changes_nothing(self):
        text = "asset a 1 contract c var x 2 1 end"
        self.assertEqual(read_house(text), read_house(text))
        self.assertIsNot(read_house(text), read_house(text))


if __name__ == "__main__":
    unittest.main()
