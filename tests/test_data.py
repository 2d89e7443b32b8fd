"""Point 7: the data of a house, and when two houses are equal."""

import unittest

from nestcall.house import House, house_text, read_house

TEXT = (
    "asset gold 100 asset iron 0 contract bank var x 3 1 var y 65535 65534 hold iron 7 hold gold 0"
    " proc pay 64 shown set x + given 1 need = x 2 give gold have gold ask y 64 end"
    " proc low 1 hidden get iron out iron end end"
    " contract shop proc buy 2 shown if < given 1 move bank gold 5 else call bank low 0 if 1 end end end end"
)
PAY = (
    ("set", "x", ("+", ("given",), ("number", 1))),
    ("need", ("=", ("variable", "x"), ("number", 2))),
    ("give", "gold", ("have", "gold")),
    ("ask", "y", 64),
)
LOW = (("get", "iron", ("out", "iron")),)
BUY = (
    ("if", ("<", ("given",), ("number", 1)),
     (("move", "bank", "gold", ("number", 5)),),
     (("call", "bank", "low", ("number", 0)), ("if", ("number", 1), (), ()))),
)
ASSETS = (("gold", 100), ("iron", 0))
CONTRACTS = (
    ("bank", (("x", 3, 1), ("y", 65535, 65534)), (("iron", 7), ("gold", 0)),
     (("pay", 64, True, PAY), ("low", 1, False, LOW))),
    ("shop", (), (), (("buy", 2, True, BUY),)),
)


def kinds(value):
    """The kinds of all values within a value, in the order in which they stand."""
    if type(value) is tuple:
        return ["tuple"] + [kind for part in value for kind in kinds(part)]
    return [type(value).__name__]


def changed(value):
    """All values that differ from a value in one part, at any depth."""
    if type(value) is tuple:
        for at, part in enumerate(value):
            for other in changed(part):
                yield value[:at] + (other,) + value[at + 1:]
            yield value[:at] + value[at + 1:]
        yield value + ("more",)
    elif type(value) is bool:
        yield not value
    elif type(value) is int:
        yield value + 1
    else:
        yield value + "s"


class DataTest(unittest.TestCase):
    def test_data(self):
        house = read_house(TEXT)
        self.assertEqual(house.assets, ASSETS)
        self.assertEqual(house.contracts, CONTRACTS)

    def test_kinds(self):
        house = read_house(TEXT)
        self.assertEqual(kinds(house.assets), kinds(ASSETS))
        self.assertEqual(kinds(house.contracts), kinds(CONTRACTS))

    def test_shown(self):
        procedures = read_house(TEXT).contracts[0][3]
        self.assertIs(procedures[0][2], True)
        self.assertIs(procedures[1][2], False)

    def test_missing_else(self):
        house = read_house("contract c proc p 1 shown if 1 need 2 end end end")
        self.assertEqual(house.contracts[0][3][0][3], (("if", ("number", 1), (("need", ("number", 2)),), ()),))

    def test_empty_parts(self):
        house = read_house("contract c proc p 1 shown end end")
        self.assertEqual((house.assets, house.contracts), ((), (("c", (), (), (("p", 1, True, ()),)),)))
        self.assertEqual(kinds(read_house("").assets) + kinds(read_house("").contracts), ["tuple", "tuple"])

    def test_text(self):
        self.assertEqual(house_text(House(ASSETS, CONTRACTS)), TEXT)
        self.assertEqual(house_text(House((), ())), "")

    def test_text_beyond_the_limits(self):
        """Guards may add statements, variables, and floors of any amount."""
        block = (("need", ("=", ("<", ("have", "a"), ("number", -70000)), ("number", 0))),) * 30
        house = House((("a", 1),), (("c", (("lock", 2, 0),) * 7, (), (("p", 1, True, block),)),))
        words = house_text(house).split(" ")
        self.assertEqual(words.count("need"), 30)
        self.assertEqual(words.count("-70000"), 30)
        self.assertEqual(words.count("lock"), 7)


class EqualTest(unittest.TestCase):
    def test_alike(self):
        house = read_house(TEXT)
        other = House(ASSETS, CONTRACTS)
        self.assertIs(house == other, True)
        self.assertIs(house != other, False)
        self.assertTrue(house == house)
        self.assertTrue(House((), ()) == read_house(""))

    def test_differing_in_one_part(self):
        house = House(ASSETS, CONTRACTS)
        count = 0
        for assets in changed(ASSETS):
            count += 1
            self.assertIs(House(assets, CONTRACTS) == house, False)
            self.assertIs(House(assets, CONTRACTS) != house, True)
        for contracts in changed(CONTRACTS):
            count += 1
            self.assertIs(House(ASSETS, contracts) == house, False)
            self.assertIs(House(ASSETS, contracts) != house, True)
        self.assertGreater(count, 200)

    def test_order_counts(self):
        one = read_house("asset a 1 asset b 1 contract c end contract d end")
        self.assertTrue(one != read_house("asset b 1 asset a 1 contract c end contract d end"))
        self.assertTrue(one != read_house("asset a 1 asset b 1 contract d end contract c end"))

    def test_attributes(self):
        house = House(ASSETS, CONTRACTS)
        self.assertEqual(house.assets, ASSETS)
        self.assertEqual(house.contracts, CONTRACTS)

    def test_other_values(self):
        self.assertFalse(House((), ()) == ((), ()))
        self.assertTrue(House((), ()) != None)  # noqa: E711
        self.assertFalse(House((), ()) == "")


if __name__ == "__main__":
    unittest.main()
