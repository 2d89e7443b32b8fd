"""Point 18: written forms of states and of rows."""

import unittest
from copy import deepcopy

from nestcall.errors import BadPaper
from nestcall.guards import guarded
from nestcall.house import read_house
from nestcall.paper import paper_lines, read_paper, read_state, state_text
from nestcall.search import least_rows
from nestcall.state import first_state
from tests.helper import Maker
from tests.small import SmallMaker
from tests.test_rows import OPEN_BANK, OPEN_ROWS, bank

FORMS = [
    ("", ((), (), ()), "//"),
    ("asset a 7", ((), (), (7,)), "//7"),
    ("asset a 7 asset b 0 asset c 65535", ((), (), (7, 0, 65535)), "//7,0,65535"),
    ("contract k end", (((),), ((),), ()), "//"),
    ("contract k end contract l end", (((), ()), ((), ()), ()), ";/;/"),
    ("contract k end contract l end contract m end contract n end", (((),) * 4, ((),) * 4, ()), ";;;/;;;/"),
    ("contract k var x 9 4 end", (((4,),), ((),), ()), "4//"),
    ("contract k var x 9 4 var y 1 0 end contract l end", (((4, 0), ()), ((), ()), ()), "4,0;/;/"),
    ("contract k end contract l var x 9 4 end", (((), (4,)), ((), ()), ()), ";4/;/"),
    ("asset a 5 contract k hold a 12 end", (((),), ((12,),), (5,)), "/12/5"),
    ("asset a 5 asset b 6 contract k var x 65535 65534 hold b 3 end contract l var y 2 1 var z 64 63 hold a 1 end",
     (((65534,), (1, 63)), ((0, 3), (1, 0)), (5, 6)), "65534;1,63/0,3;1,0/5,6"),
    ("asset a 5 asset b 6 asset c 7 contract k end contract l end contract m hold c 9 end",
     (((), (), ()), ((0, 0, 0), (0, 0, 0), (0, 0, 9)), (5, 6, 7)), ";;/0,0,0;0,0,0;0,0,9/5,6,7"),
]
# A house with two contracts, three variables and two assets.
WIDE = "asset a 0 asset b 0 contract k var x 65535 0 var y 10 0 end contract l var z 1 0 end"


def bad_at(reading, *arguments):
    """The index `at` of the BadPaper that a function raises, or None."""
    try:
        reading(*arguments)
    except BadPaper as error:
        return error.at
    return None


class StateTextTest(unittest.TestCase):
    def check_form(self, house, state, text):
        """The state has this written form, which is read as this state."""
        self.assertEqual(state_text(state), text)
        found = read_state(house, text)
        self.assertEqual(found, state, text)
        self.assertEqual(read_state(house, text, 7), state, text)
        self.check_kinds(found)

    def check_kinds(self, state):
        self.assertEqual([type(part) for part in state], [tuple, tuple, tuple])
        self.assertEqual({type(row) for row in state[0] + state[1]} - {tuple}, set())
        numbers = [number for row in state[0] + state[1] for number in row] + list(state[2])
        self.assertEqual({type(number) for number in numbers} - {int}, set())

    def test_forms(self):
        for text, state, form in FORMS:
            house = read_house(text)
            self.assertEqual(first_state(house), state)
            self.check_form(house, state, form)
            self.assertEqual(house, read_house(text))

    def test_made_houses(self):
        for seed in range(150):
            house = read_house(Maker(seed).house())
            state = first_state(house)
            self.check_form(house, state, state_text(state))

    def test_other_states(self):
        house = read_house(WIDE)
        for text in ("65534,9;0/0,0;0,0/0,0", "0,0;0/999999999,1;0,65536/131070,100000", "1,1;0/2,3;4,5/6,7"):
            self.assertIsNone(bad_at(read_state, house, text))
            self.check_form(house, read_state(house, text), text)

    def test_large_amounts(self):
        house = read_house("asset a 5 contract k end")
        self.check_form(house, (((),), ((70000,),), (999999999,)), "/70000/999999999")

    def test_guarded_houses(self):
        """The variable that a lock adds belongs to the state."""
        house = guarded(read_house("asset a 5 contract k var x 3 2 end"), [("lock", "k")])
        self.check_form(house, (((2, 1),), ((4,),), (1,)), "2,1/4/1")
        for text in ("2/4/1", "2,2/4/1", "2,0,0/4/1"):
            self.assertEqual(bad_at(read_state, house, text), 0)


class RefusedStateTest(unittest.TestCase):
    def check_refused(self, house, text):
        for at in (0, 1, 99):
            self.assertEqual(bad_at(read_state, house, text, at), at, text)
        self.assertEqual(bad_at(read_state, house, text), 0, text)

    def test_parts(self):
        house = read_house(WIDE)
        for text in ("1,1;0/0,0;0,0", "1,1;0", "", "1,1;0/0,0;0,0/0,0/", "/1,1;0/0,0;0,0/0,0", "1,1;0/0,0;0,0/0,0/0,0"):
            self.check_refused(house, text)

    def test_contracts(self):
        house = read_house(WIDE)
        for text in (
                "1,1/0,0;0,0/0,0", "1,1;0;0/0,0;0,0/0,0", "1,1;0;/0,0;0,0/0,0", ";1,1;0/0,0;0,0/0,0", "/0,0;0,0/0,0",
                "1,1;0/0,0/0,0", "1,1;0/0,0;0,0;0,0/0,0", "1,1;0//0,0", "1,1;0/0,0;0,0;/0,0", "1,1;0/0,0;0,0/0;0"):
            self.check_refused(house, text)

    def test_numbers(self):
        house = read_house(WIDE)
        for text in (
                "1;0/0,0;0,0/0,0", "1,1,1;0/0,0;0,0/0,0", "1,1;0,0/0,0;0,0/0,0", "1,1;/0,0;0,0/0,0", ";0/0,0;0,0/0,0",
                "1,1;0/0;0,0/0,0", "1,1;0/0,0;0,0,0/0,0", "1,1;0/0,0;/0,0", "1,1;0/0,0;0,0/0", "1,1;0/0,0;0,0/",
                "1,1;0/0,0;0,0/0,0,0"):
            self.check_refused(house, text)

    def test_empty_numbers(self):
        house = read_house(WIDE)
        for text in (
                ",1;0/0,0;0,0/0,0", "1,;0/0,0;0,0/0,0", ",;0/0,0;0,0/0,0", "1,1;0/,0;0,0/0,0", "1,1;0/0,0;0,/0,0",
                "1,1;0/0,0;0,0/,", "1,,1;0/0,0;0,0/0,0", "1,1;0/0,0;0,0/0,"):
            self.check_refused(house, text)
        self.check_refused(read_house("contract k var x 9 0 end"), "//")

    def test_wrong_numbers(self):
        house = read_house("asset a 0 contract k var x 65535 0 end")
        for word in (
                "00", "01", "007", "-1", "+1", "-0", " 1", "1 ", "", "a", "1a", "1.0", "1_0", "0x1", "1\n", "\t1", "one",
                "1234567890", "0000000001", "1000000000", "?", "1;", ";1", "1,", "1,1", "1/", "12 3"):
            self.check_refused(house, f"{word}/0/0")
            self.check_refused(house, f"0/{word}/0")
            self.check_refused(house, f"0/0/{word}")
        for word in ("0", "1", "65534"):
            self.assertIsNone(bad_at(read_state, house, f"{word}/{word}/{word}"))
        for word in ("65535", "65536", "999999999"):
            self.check_refused(house, f"{word}/0/0")
            self.assertIsNone(bad_at(read_state, house, f"0/{word}/{word}"))

    def test_sizes(self):
        house = read_house(WIDE)
        for x, y, z in ((65535, 0, 0), (0, 10, 0), (0, 0, 1), (0, 11, 0), (99999, 99, 9)):
            self.check_refused(house, f"{x},{y};{z}/0,0;0,0/0,0")
        self.assertIsNone(bad_at(read_state, house, "65534,9;0/0,0;0,0/0,0"))

    def test_houses_with_nothing(self):
        for text, wrong in (
                ("", ("", "/", "///", "0//", "/0/", "//0", ";//", "/;/", "//,", " //", "// ")),
                ("asset a 0", ("//", "0//0", "/0/0", "//0,0", "//0;", "/;/0", "//")),
                ("contract k end", ("", "/", "0//", "/0/", "//0", ";/;/", ";//", "/;/"))):
            house = read_house(text)
            for word in wrong:
                self.check_refused(house, word)


class PaperTest(unittest.TestCase):
    def check_round(self, house, pairs):
        given = deepcopy(pairs)
        lines = paper_lines(given)
        self.assertEqual(given, pairs)
        self.assertEqual(len(lines), len(pairs))
        self.assertEqual({type(line) for line in lines} - {str}, set())
        kept = list(lines)
        found = read_paper(house, lines)
        self.assertEqual((found, lines), (pairs, kept))
        self.assertEqual({(type(pair), type(pair[1])) for pair in found} - {(tuple, list)}, set())

    def test_no_rows(self):
        for text in ("", OPEN_BANK):
            self.assertEqual(paper_lines([]), [])
            self.assertEqual(read_paper(read_house(text), []), [])

    def test_lines(self):
        pairs = [(bank(1, 3, 0), [bank(1, 3, 0), bank(0, 2, 1)]), (bank(0, 0, 3), []), (bank(0, 0, 3), [bank(1, 1, 1)])]
        lines = ["1,0/3/0 1,0/3/0 0,0/2/1", "0,0/0/3", "0,0/0/3 1,0/1/1"]
        self.assertEqual(paper_lines(pairs), lines)
        self.assertEqual(read_paper(read_house(OPEN_BANK), lines), pairs)
        self.check_round(read_house(OPEN_BANK), pairs)

    def test_only_a_state(self):
        self.assertEqual(paper_lines([(((), (), ()), [])]), ["//"])
        self.assertEqual(read_paper(read_house(""), ["//"]), [(((), (), ()), [])])
        self.assertEqual(read_paper(read_house(""), ["// //"]), [(((), (), ()), [((), (), ())])])

    def test_the_same_state_twice(self):
        state = bank(1, 3, 0)
        self.check_round(read_house(OPEN_BANK), [(state, [state, state]), (state, [state])])

    def test_least_rows(self):
        self.check_round(read_house(OPEN_BANK), least_rows(read_house(OPEN_BANK)))
        self.check_round(read_house(OPEN_BANK), [(state, sorted(row)) for state, row in OPEN_ROWS.items()])
        for seed in range(0, 60):
            house = read_house(SmallMaker(seed).house())
            self.check_round(house, [(first_state(house), [first_state(house)] * 3)])
        text = "contract bank var x 200 0 proc p 1 shown set x + x 1 end end"
        self.check_round(read_house(text), least_rows(read_house(text)))

    def test_new_lists(self):
        house = read_house(OPEN_BANK)
        lines = ["1,0/3/0 1,0/3/0"]
        read_paper(house, lines)[0][1].clear()
        self.assertEqual(read_paper(house, lines), [(bank(1, 3, 0), [bank(1, 3, 0)])])
        pairs = read_paper(house, lines)
        paper_lines(pairs).clear()
        self.assertEqual(paper_lines(pairs), lines)

    def test_refused_lines(self):
        house = read_house(OPEN_BANK)
        good = "1,0/3/0 0,0/2/1"
        for wrong in (
                "", " ", good + " ", " " + good, good.replace(" ", "  "), good + " 2,0/3/0", good + " 0,1/3/0",
                "2,0/3/0 " + good, good + " 0,0/2", good + "\n", good.replace(" ", "\t"), good + ",", "0", good + " x",
                good + " 0,0/02/1", good + " 0,0/2/1/"):
            for lines, at in (
                    ([wrong], 0), ([good, wrong], 1), ([wrong, good], 0), ([good] * 12 + [wrong, "", wrong], 12)):
                kept = list(lines)
                self.assertEqual(bad_at(read_paper, house, lines), at, lines)
                self.assertEqual(lines, kept)
        self.assertIsNone(bad_at(read_paper, house, [good] * 12))

    def test_refused_lines_of_a_house_with_nothing(self):
        for text in ("", "contract k end"):
            house = read_house(text)
            self.assertIsNone(bad_at(read_paper, house, ["//", "// //", "//"]))
            for wrong in ("", "// ", " //", "//  //", "/ /"):
                self.assertEqual(bad_at(read_paper, house, ["//", wrong, ""]), 1, wrong)


if __name__ == "__main__":
    unittest.main()
