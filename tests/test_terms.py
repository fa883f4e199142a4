import unittest

from pacebond.text.terms import OPS, WORTHS, is_name, is_term, is_worth
from tests.samples import ANYTHING, FORTY, Case, unlikely, warped


def nested(many, word="+"):
    """A term of so many ops within one another."""
    term = "x"
    for _ in range(many):
        term = (word, 1, term)
    return term


def nested_ats(many):
    term = 3
    for _ in range(many):
        term = ("at", "a", term)
    return term


class Terms(Case):
    def test_worths(self):
        self.same(WORTHS, 256)
        for worth in range(256):
            self.assertIs(is_worth(worth), True)
        for thing in (-1, 256, 257, True, False, None, "0", (0,), [0], {}, FORTY, -FORTY):
            self.assertIs(is_worth(thing), False, thing)

    def test_names(self):
        for name in ("a", "z", "x", "abcdef", "ata", "ta", "aat", "end", "set"):
            self.assertIs(is_name(name), True, name)
        for thing in ("", "abcdefg", "at", "A", "aB", "a1", "1", "a b", " a", "a ", "a_", "`", "{", "a\n", "\n", "a-b"):
            self.assertIs(is_name(thing), False, thing)
        for thing in (1, True, None, ("a",), ["a"], {"a": 1}):
            self.assertIs(is_name(thing), False, thing)

    def test_terms(self):
        for term in (0, 255, "x", ("+", 1, "x"), ("-", 0, 0), ("*", "x", "y"), ("<", 1, 2), ("=", "x", 9), ("at", "a", 3)):
            self.assertIs(is_term(term), True, term)
        for thing in (256, -1, "at", "abcdefg", ("/", 1, 2), ("at", 3, "a"), ("at", "at", 3), ("at", "a", 256),
                      ("+", 1), ("+", 1, 2, 3), ("at", "a"), ("at", "a", 0, 0), (), ("x",), ("+", 1, 256), ("+", -1, 1),
                      ("at", ("at", "a", 0), 1), ("+", "at", 1), ("a", "a", 1), (1, 1, 1), ("", 1, 2), ("%", 1, 2)):
            self.assertIs(is_term(thing), False, thing)

    def test_four_within_one_another(self):
        for word in OPS:
            self.assertIs(is_term(nested(4, word)), True)
            self.assertIs(is_term(nested(5, word)), False)
            self.assertIs(is_term((word, nested(3, word), 0)), True)
            self.assertIs(is_term((word, nested(4, word), 0)), False)
            self.assertIs(is_term((word, nested_ats(3), nested(3))), True)
        self.assertIs(is_term(nested_ats(4)), True)
        self.assertIs(is_term(nested_ats(5)), False)
        self.assertIs(is_term(("at", "a", nested(3))), True)
        self.assertIs(is_term(("at", "a", nested(4))), False)
        self.assertIs(is_term(("+", nested(2), nested_ats(4))), False)

    def test_of_anything(self):
        term = ("+", ("at", "a", 1), ("<", "x", 0))
        self.assertIs(is_term(term), True)
        for thing in ANYTHING + warped(term):
            for ask in (is_worth, is_name, is_term):
                self.truth(ask(thing))
        for thing in unlikely(term):
            self.assertIs(is_term(thing), False, thing)

    def test_ops(self):
        self.same(list(OPS), ["+", "-", "*", "<", "="])
        for word, wanted in (
            ("+", [((0, 0), 0), ((200, 55), 255), ((200, 56), 0), ((255, 255), 254)]),
            ("-", [((0, 0), 0), ((5, 3), 2), ((0, 1), 255), ((3, 5), 254), ((0, 255), 1)]),
            ("*", [((0, 9), 0), ((15, 17), 255), ((16, 16), 0), ((255, 255), 1), ((7, 100), 188)]),
            ("<", [((0, 1), 1), ((1, 1), 0), ((2, 1), 0), ((0, 255), 1), ((255, 0), 0)]),
            ("=", [((0, 0), 1), ((255, 255), 1), ((1, 2), 0), ((2, 1), 0)]),
        ):
            for (x, y), told in wanted:
                self.same(OPS[word](x, y), told)


if __name__ == "__main__":
    unittest.main()
