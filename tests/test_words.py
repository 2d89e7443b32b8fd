"""Point 2: words, names and numbers."""

import unittest

from nestcall.words import Cursor, is_name, number_of

KEY_WORDS = (
    "asset contract var hold proc shown hidden end set need give get move ask"
    " call if else given have out mod"
).split(" ")


class NamesTest(unittest.TestCase):
    def test_names(self):
        for word in ("a", "z", "a0", "z9", "x1y2", "abcdefghijkl", "a12345678901", "zzzzzzzzzzzz"):
            self.assertIs(is_name(word), True, word)

    def test_lengths(self):
        self.assertIs(is_name("a"), True)
        self.assertIs(is_name("a" * 12), True)
        self.assertIs(is_name("a" * 13), False)
        self.assertIs(is_name("a" * 5000), False)
        self.assertIs(is_name(""), False)

    def test_first_sign(self):
        for word in ("0", "1a", "9z", "0a", "12"):
            self.assertIs(is_name(word), False, word)

    def test_other_signs(self):
        for word in ("A", "aB", "Ab", "a_b", "_a", "a-b", "a.b", "a b", " a", "a ", "-", "+", "=", "<"):
            self.assertIs(is_name(word), False, word)
        for word in ("a\n", "\na", "a\tb", "\t", "\n", "a/", "a;", "a,", "`", "{", "a{", "a:", "a@"):
            self.assertIs(is_name(word), False, word)

    def test_key_words(self):
        self.assertEqual(len(KEY_WORDS), 21)
        for word in KEY_WORDS:
            self.assertIs(is_name(word), False, word)
            self.assertIs(is_name(word + "s"), True, word)
            self.assertIs(is_name("a" + word), True, word)
            self.assertIs(is_name(word + "0"), True, word)
            self.assertIs(is_name(word.upper()), False, word)

    def test_words_of_outsiders_are_names(self):
        for word in ("when", "answer", "asked", "deep", "failed", "cell", "lock"):
            self.assertIs(is_name(word), True, word)


class NumbersTest(unittest.TestCase):
    def test_numbers(self):
        for number in (0, 1, 9, 10, 99, 100, 1234, 9999, 10000, 65534, 65535):
            self.assertEqual(number_of(str(number)), number)
            self.assertIs(type(number_of(str(number))), int)

    def test_every_word_of_a_few_digits(self):
        for number in range(0, 65536, 7):
            self.assertEqual(number_of(str(number)), number)

    def test_too_large(self):
        for word in ("65536", "65540", "66000", "70000", "99999", "100000", "655350", "123456"):
            self.assertIsNone(number_of(word), word)

    def test_very_long(self):
        for word in ("1" * 6, "1" * 100, "9" * 10000, "0" * 10000):
            self.assertIsNone(number_of(word))

    def test_leading_zeros(self):
        for word in ("00", "01", "007", "00000", "000000", "01234", "012345"):
            self.assertIsNone(number_of(word), word)
        self.assertEqual(number_of("0"), 0)

    def test_other_words(self):
        for word in ("", "-1", "+1", "-0", "+0", "1.", "1.0", "1_0", " 1", "1 ", "1\n", "\n1", "\t1", "1a", "a1",
                     "0x1", "1e3", "a", "given", "-", "+", "mod"):
            self.assertIsNone(number_of(word), word)


class CursorTest(unittest.TestCase):
    def test_words(self):
        cursor = Cursor("asset a 1 contract c end")
        self.assertEqual(cursor.words, ["asset", "a", "1", "contract", "c", "end"])
        self.assertEqual(cursor.at, 0)
        self.assertIs(type(cursor.words), list)

    def test_one_word(self):
        self.assertEqual(Cursor("a").words, ["a"])
        self.assertEqual(Cursor("A+").words, ["A+"])

    def test_empty_text(self):
        cursor = Cursor("")
        self.assertEqual(cursor.words, [])
        self.assertEqual(cursor.at, 0)

    def test_empty_words(self):
        self.assertEqual(Cursor(" ").words, ["", ""])
        self.assertEqual(Cursor("a  b").words, ["a", "", "b"])
        self.assertEqual(Cursor(" a").words, ["", "a"])
        self.assertEqual(Cursor("a ").words, ["a", ""])
        self.assertEqual(Cursor("a   b").words, ["a", "", "", "b"])

    def test_only_spaces_part_words(self):
        self.assertEqual(Cursor("a\nb c\td").words, ["a\nb", "c\td"])
        self.assertEqual(Cursor("\n").words, ["\n"])

    def test_cursors_share_nothing(self):
        first = Cursor("a b")
        second = Cursor("a b")
        first.words.append("c")
        first.at = 1
        self.assertEqual(second.words, ["a", "b"])
        self.assertEqual(second.at, 0)


if __name__ == "__main__":
    unittest.main()
