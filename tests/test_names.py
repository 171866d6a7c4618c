import unittest
from itertools import product

from leanmodes.names import has_form


class Form(unittest.TestCase):
    def test_one_to_six_small_letters(self):
        for name in ("a", "z", "az", "iron", "abcdef", "zzzzzz"):
            self.assertIs(has_form(name), True, name)

    def test_anything_else(self):
        for name in ("", "abcdefg", "a" * 20, "A", "aB", "a b", " a", "a ", "a1", "a_", "`", "{", "a`", "a{", "-"):
            self.assertIs(has_form(name), False, name)

    def test_any_two_signs(self):
        signs = [chr(code) for code in range(ord(" "), ord("~") + 1)]
        for one, other in product(signs, repeat=2):
            self.assertIs(has_form(one + other), "a" <= one <= "z" and "a" <= other <= "z", one + other)
