"""[280], [281]: lines and words."""

import unittest

from planeworth.lines import integers_in, is_name, number_in, words_of

NINES = "9" * 400


class TestWords(unittest.TestCase):

    def test_lines(self):
        for line, words in (("a", ["a"]), ("make a 2 1,0,0", ["make", "a", "2", "1,0,0"]), ("! ~", ["!", "~"]),
                            ("a" * 5000, ["a" * 5000]), ("> < =", [">", "<", "="])):
            self.assertEqual(words_of(line), words)

    def test_malformed_lines(self):
        for line in ("", " ", "  ", " a", "a ", "a  b", "a   b", " a b ", "a\tb", "a\nb", "a\n", "\n", "a\rb", "a\x00b",
                     "a b\x7f", "\u00e9", "a \u00e9", "a\u00a0b", "a\u2003b", "a\x1fb", "\U0001f600", "a\x0bb", "a\u2028b"):
            self.assertIsNone(words_of(line))

    def test_each_character(self):
        for code in range(0, 400):
            letter = chr(code)
            self.assertEqual(words_of(f"a{letter}b"), ["a", "b"] if letter == " " else
                             [f"a{letter}b"] if 33 <= code <= 126 else None)

    def test_lists_may_be_changed(self):
        words_of("a b").clear()
        self.assertEqual(words_of("a b"), ["a", "b"])

    def test_names(self):
        for word in ("a", "z", "abcdefghijkl", "mnopqrstuvwx", "none", "zzzzzzzzzzzz"):
            self.assertIs(is_name(word), True)
        for word in ("", "abcdefghijklm", "A", "aB", "a1", "1", "a_b", "a-b", "a b", " a", "a ", "a\n", "\u00e9", "\u00df",
                     "\u0431", "a,b", "`", "{", "\u017f"):
            self.assertIs(is_name(word), False)

    def test_numbers(self):
        for k in range(100):
            self.assertEqual(number_in(str(k)), k)
        for word in ("", "00", "01", "09", "100", "999", "-1", "-0", "-", "+1", "+", "1 ", " 1", "1.", "a", "1a", "--", "\u0661",
                     "\u00b2", "-9", "1,2", "000", "1\n", NINES):
            self.assertIsNone(number_in(word))
        self.assertIsInstance(number_in("0"), int)

    def test_several_integers(self):
        for word, due in (("0", [0]), ("-1", [-1]), ("1,2,3", [1, 2, 3]), ("0,0", [0, 0]), ("-5,10,-77", [-5, 10, -77]),
                          (NINES, [int(NINES)]), ("-" + NINES, [-int(NINES)]), (f"1,{NINES}", [1, int(NINES)])):
            self.assertEqual(integers_in(word), due)
        for word in ("", ",", "1,", ",1", "1,,2", "01", "-0", "-01", "00", "+1", "1,+2", "1, 2", " 1", "1 ", "a", "1,a", "-", "1,-",
                     "--1", "1.0", "1/2", "9" + NINES, "-9" + NINES, f"1,9{NINES}", "\u0661", "1\n", "1_000", "0x1", "1;2"):
            self.assertIsNone(integers_in(word))

    def test_integers_may_be_changed(self):
        integers_in("1,2").clear()
        self.assertEqual(integers_in("1,2"), [1, 2])


if __name__ == "__main__":
    unittest.main()
