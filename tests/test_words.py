"""movedactors.words: words, names and numbers."""

import unittest

from movedactors.words import is_name, is_number, is_word
from samples import anythings

WORDS = ("a", "z", "a0", "z9", "abcdefghijkl", "a12345678901", "if", "go", "var")
KEPT = ("closed", "ended", "gone", "self", "why")
NO_WORDS = (
    "", "abcdefghijklm", "a123456789012", "A", "aB", "Abc", "1", "1a", "0", "a_b", "_a", "a b", " a", "a ", "a\n", "\n",
    "a\t", "a-b", "a.", "$", "a!", "a~", "`", "{", "@", "[", "/", ":",
)


class Words(unittest.TestCase):
    def test_words(self):
        for value in WORDS + KEPT:
            self.assertIs(is_word(value), True, value)
        for value in NO_WORDS:
            self.assertIs(is_word(value), False, value)

    def test_all_signs(self):
        for code in range(32, 127):
            sign = chr(code)
            self.assertIs(is_word(sign), sign in "abcdefghijklmnopqrstuvwxyz", sign)
            self.assertIs(is_word("a" + sign), sign in "abcdefghijklmnopqrstuvwxyz0123456789", sign)

    def test_names(self):
        for value in WORDS:
            self.assertIs(is_name(value), True, value)
        for value in KEPT + NO_WORDS:
            self.assertIs(is_name(value), False, value)
        for value in ("selfs", "clos", "whys", "end"):
            self.assertIs(is_name(value), True, value)

    def test_numbers(self):
        for value in (0, 1, 12, 10 ** 40):
            self.assertIs(is_number(value), True)
        for value in (-1, -10 ** 40, True, False, None, "1", "", (), [], {}, (1,), [1]):
            self.assertIs(is_number(value), False)

    def test_anything(self):
        for value in anythings() + [True, False, 0, 1, ("a",), ["a"], {"a": "a"}]:
            self.assertIs(is_word(value), False)
            self.assertIs(is_name(value), False)
        for value in anythings():
            self.assertIs(is_number(value), False)


if __name__ == "__main__":
    unittest.main()
