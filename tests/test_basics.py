"""[2]: what an INTEGER, COUNT, TEXT, NAME and FRACTION is."""

import unittest

from oneshelf.basics import is_count, is_fraction, is_integer, is_name, is_text
from support import WORDS, Case, junk

FUNCTIONS = (is_integer, is_count, is_text, is_name, is_fraction)


class TestKinds(Case):
    def expect(self, function, right, wrong):
        for value in right:
            self.assertIs(self.yes_or_no(function, value=value), True, value)
        for value in wrong:
            self.assertIs(self.yes_or_no(function, value=value), False, value)

    def test_integers(self):
        self.expect(is_integer, [0, 1, -1, 10 ** 29, -10 ** 29],
                    [True, False, None, "", "1", 1.0, 0.0, (1,), [1], {}, b"1", 1j, int])

    def test_counts(self):
        self.expect(is_count, [0, 1, 2, 10 ** 29], [-1, -10 ** 29, True, False, None, "0", (0,), [0], 0.0, 2.0])

    def test_texts(self):
        right = ["", "a", "z", "0", "9", "abcdefgh", "12345678", "0a", "m119"] + list(WORDS)
        wrong = ["abcdefghi", "A", "a b", " ", "-", "a\n", "\n", "_", "a_", "aB", "`", "{", "/", ":", "@",
                 "\u00e9", "\u00df", "\u0661", "\u00b2", None, 0, True, b"a", ["a"], ("a",), [], ()]
        self.expect(is_text, right, wrong)

    def test_all_single_signs(self):
        for sign in range(256):
            self.assertIs(is_text(chr(sign)), chr(sign) in WORDS)
            self.assertIs(is_text("a" + chr(sign) + "b"), chr(sign) in WORDS)
            self.assertIs(is_name(chr(sign)), chr(sign) in WORDS[:26])

    def test_names(self):
        self.expect(is_name, ["a", "z", "a0", "abcdefgh", "s1234567"],
                    ["", "0", "0a", "9z", "abcdefghi", "A", "a ", " a", "a-", None, 0, True, b"a", ("a",), ["a"]])

    def test_fractions(self):
        right = [(0, 1), (1, 1), (-1, 1), (4, 9), (-4, 9), (9, 4), (10 ** 20, 10 ** 20 + 1)]
        wrong = [(0, 2), (2, 4), (-2, 4), (1, 0), (0, 0), (1, -1), (-1, -2), (0, -1), (True, 1), (False, 1), (1, True),
                 [1, 2], (1,), (1, 2, 3), (), 1, 0, None, "12", ("1", 2), (1, "2"), (1.0, 2), (None, None), ((1, 2), 1)]
        self.expect(is_fraction, right, wrong)

    def test_any_value(self):
        for function in FUNCTIONS:
            for value in junk():
                self.assertIs(type(self.yes_or_no(function, value=value)), bool)
        for value in junk():
            self.assertIs(is_integer(value), type(value) is int)
            self.assertIs(is_count(value), type(value) is int and value >= 0)
            self.assertIs(is_text(value), type(value) is str and len(value) < 9 and all(c in WORDS for c in value))
            self.assertIs(is_name(value), is_text(value) and value[:1].isalpha())


if __name__ == "__main__":
    unittest.main()
