"""Point 6: reading and refusing, over whole texts."""

import unittest

from nestcall.house import house_text, read_house
from tests.helper import Maker, TextChecks, refusal

LONG = (
    "asset a 5 asset b 0 contract c var x 3 1 hold b 4 proc p 2 shown ask x 2 set x + x given end end"
    " contract d var y 9 8 hold a 2 proc q 64 hidden call c p - y 1 end"
    " proc r 1 shown if < y out a move c a have a else if y give b 1 end get a 2 end need = y 1 end end"
)


class CutTest(TextChecks, unittest.TestCase):
    def test_long_text(self):
        self.check_accepted(LONG)
        words = LONG.split(" ")
        first = words.index("contract")
        second = words.index("contract", first + 1)
        self.check_cuts(LONG, (0, 3, first, second))

    def test_assets_only(self):
        self.check_cuts("asset a 1 asset b 2 asset c 3", (0, 3, 6))

    def test_deep_texts(self):
        deep = "contract c proc p 1 shown " + "if 1 " * 6 + "need " + "+ " * 9 + "1 " * 10 + "end " * 7 + "end"
        self.check_accepted(deep)
        self.check_cuts(deep, (0,))

    def test_full_procedure(self):
        full = "contract c proc p 1 shown " + "need 1 " * 21 + "if 1 need 2 else need 3 end end end"
        self.check_accepted(full)
        self.check_cuts(full, (0,))

    def test_made_texts(self):
        for seed in range(60):
            text = Maker(seed).house()
            words = text.split(" ") if text != "" else []
            for count in range(len(words)):
                self.assertIn(refusal(" ".join(words[:count])), (None, count), (seed, count))


class RoundTest(TextChecks, unittest.TestCase):
    def test_made_texts(self):
        for seed in range(400):
            self.check_accepted(Maker(seed).house())

    def test_one_text_for_each_house(self):
        texts = [Maker(seed).house() for seed in range(120)]
        houses = [read_house(text) for text in texts]
        for text, house in zip(texts, houses):
            for other_text, other in zip(texts, houses):
                self.assertEqual(house == other, text == other_text)

    def test_new_houses(self):
        house = read_house(LONG)
        self.assertIsNot(read_house(LONG), house)
        before = (house.assets, house.contracts)
        house_text(house)
        self.assertEqual((house.assets, house.contracts), before)


class WrongWordTest(TextChecks, unittest.TestCase):
    def test_a_word_that_fits_nowhere(self):
        """Such a word is refused wherever it stands, since the words before it were fine."""
        words = LONG.split(" ")
        for at in range(len(words)):
            for wrong in ("", "A", "x\n", "\tend", "65536", "00", "abcdefghijklm", "end\n", "?", "{"):
                changed = words[:at] + [wrong] + words[at + 1:]
                self.assertEqual(refusal(" ".join(changed)), at, changed)
                longer = words[:at] + [wrong] + words[at:]
                self.assertEqual(refusal(" ".join(longer)), at, longer)

    def test_a_word_that_stands_elsewhere(self):
        """What is refused there must not depend on what follows."""
        words = LONG.split(" ")
        for at in range(len(words)):
            for wrong in ("end", "else", "need", "x", "0", "contract", "+", "have", "proc", "zz"):
                changed = words[:at] + [wrong] + words[at + 1:]
                found = refusal(" ".join(changed))
                if found is None:
                    self.assertEqual(house_text(read_house(" ".join(changed))), " ".join(changed))
                    continue
                self.assertGreaterEqual(found, at)
                self.assertEqual(refusal(" ".join(changed[:found + 1])), found)
                self.assertIn(refusal(" ".join(changed[:found])), (None, found))

    def test_words_behind(self):
        four = " contract e end contract f end"
        for more in ("end", "contract", "asset", "x", "", "0", "need", "else"):
            self.assertEqual(refusal(LONG + four + " " + more), len((LONG + four).split(" ")))

    def test_the_first_wrong_word_counts(self):
        self.check_refused("asset >1 1 asset 2 2 contract")
        self.check_refused("contract c var x >0 5 proc p 99 shown set z end")
        self.check_refused("contract c proc p 1 shown need >z need zz end end")


if __name__ == "__main__":
    unittest.main()
