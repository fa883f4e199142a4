import unittest

from pacebond.errors import NoProgram
from pacebond.text.programs import is_program, variables
from tests.samples import ANYTHING, Case, unlikely, warped

SET = ("set", "x", 0)
WHOLE = (
    (("x", 0, 9), ("b", 1, 1)),
    (("a", 4), ("c", 1)),
    (
        ("set", "y", ("+", ("at", "a", 3), "x")),
        ("loop", 3, "x", (("set", "x", ("-", "x", 1)), ("if", "y", (("put", "c", 0, "z"),), ()))),
        ("put", "a", 0, "b"),
    ),
)


def of(*body):
    """A program without asks, of arrays a and c."""
    return ((), (("a", 4), ("c", 1)), body)


def ifs(many, inner=()):
    """Statements: so many ifs within one another."""
    body = inner
    for _ in range(many):
        body = (("if", "x", body, ()),)
    return body


def others(many):
    body = ()
    for _ in range(many):
        body = (("if", "x", (), body),)
    return body


def loops(many, inner=()):
    body = inner
    for _ in range(many):
        body = (("loop", 2, "x", body),)
    return body


class Programs(Case):
    def good(self, *programs):
        for program in programs:
            self.assertIs(is_program(program), True, program)

    def bad(self, *things):
        for thing in things:
            self.assertIs(is_program(thing), False, thing)
            self.refuses(NoProgram, variables, thing)

    def test_whole(self):
        self.good(WHOLE, ((), (), ()))

    def test_asks(self):
        asks = [("x", 0, 9), ("y", 0, 255), ("z", 255, 255), ("w", 0, 0)]
        for many in range(4):
            self.good((tuple(asks[:many]), (), ()))
        self.bad((tuple(asks), (), ()))
        self.bad(*[((ask,), (), ()) for ask in (
            ("x", 9, 8), ("x", 0, 256), ("x", -1, 3), ("at", 0, 9), ("", 0, 9), ("x", 0), ("x", 0, 9, 9), ("x", True, 9),
            ("x", 0, True), "x", (), ("abcdefg", 0, 1))])
        self.good(((("x", 8, 8),), (), ()), ((("abcdef", 0, 1),), (), ()))

    def test_arrays(self):
        arrays = [("a", 1), ("b", 6), ("c", 3)]
        for many in range(3):
            self.good(((), tuple(arrays[:many]), ()))
        self.bad(((), tuple(arrays), ()))
        self.bad(*[((), (array,), ()) for array in (
            ("a", 0), ("a", 7), ("a", True), ("at", 2), ("a",), ("a", 1, 1), "a", (), (1, 1))])

    def test_eight_statements_beside_one_another(self):
        self.good(of(*[SET] * 8), of(*ifs(1, (SET,) * 8)), of(*loops(1, (SET,) * 8)), of(("if", 1, (), (SET,) * 8)))
        self.bad(of(*[SET] * 9), of(*ifs(1, (SET,) * 9)), of(*loops(1, (SET,) * 9)), of(("if", 1, (), (SET,) * 9)))

    def test_twenty_four_statements_in_all(self):
        self.good(of(*[SET] * 5, ("if", 1, (SET,) * 8, (SET,) * 6), ("loop", 1, 1, (SET,) * 3)))
        self.bad(of(*[SET] * 5, ("if", 1, (SET,) * 8, (SET,) * 6), ("loop", 1, 1, (SET,) * 4)))
        self.bad(of(*[SET] * 5, ("if", 1, (SET,) * 8, (SET,) * 7), ("loop", 1, 1, (SET,) * 3)))
        self.bad(of(*[SET] * 6, ("if", 1, (SET,) * 8, (SET,) * 6), ("loop", 1, 1, (SET,) * 3)))
        self.good(of(("if", 0, (("if", 0, (SET,) * 8, (SET,) * 8),), (SET,) * 6)))
        self.bad(of(("if", 0, (("if", 0, (SET,) * 8, (SET,) * 8),), (SET,) * 7)))

    def test_ifs_and_loops_within_one_another(self):
        self.good(of(*ifs(3)), of(*ifs(3, (SET,))), of(*others(3)), of(*loops(2)), of(*loops(2, (SET,))))
        self.bad(of(*ifs(4)), of(*others(4)), of(*loops(3)), of(*ifs(2, loops(2))), of(*loops(2, ifs(2))))
        self.good(of(*ifs(1, loops(2))), of(*loops(2, ifs(1))), of(*loops(1, ifs(1, loops(1)))))
        self.bad(of(*loops(1, ifs(1, loops(2)))), of(*loops(1, ifs(1, loops(1, ifs(1))))))
        self.good(of(*loops(2), *loops(2), *ifs(3), *ifs(3)))
        self.bad(of(SET, SET, *ifs(4)), of(*loops(2), *loops(3)))

    def test_statements(self):
        self.good(of(("set", "x", "y")), of(("put", "a", 0, 1)), of(("if", 0, (), ())), of(("loop", 1, 0, ())),
                  of(("loop", 6, 0, ())))
        self.bad(*[of(statement) for statement in (
            ("set", "x"), ("set", "x", 0, 0), ("set", 1, 0), ("set", "at", 0), ("set", "x", 256), ("put", "a", 0),
            ("put", "a", 0, 0, 0), ("put", 0, "a", 0), ("put", "a", -1, 0), ("put", "a", 0, 256), ("if", 0, ()),
            ("if", 0, (), (), ()), ("if", 256, (), ()), ("if", 0, 0, ()), ("if", 0, (), 0), ("if", 0, (0,), ()),
            ("loop", 0, 1, ()), ("loop", 7, 1, ()), ("loop", True, 1, ()), ("loop", 1, 256, ()), ("loop", 1, 1, 0),
            ("loop", 1, ()), ("loop", 1, 1, (), ()), ("loop", "x", 1, ()), (), ("rest",), "set", SET[:1], ("Set", "x", 0),
            ("get", "a", 0, 0), ("set", "x", ()), ("if", 0, SET, ()), ("loop", 1, 1, SET))])
        self.bad(((), (), SET), ((), (), [SET]), ((), ()), ((), (), (), ()))

    def test_terms_of_four_within_one_another(self):
        four = ("+", ("+", ("+", ("+", 1, 1), 1), 1), 1)
        five = ("+", four, 1)
        for make in (lambda term: ("set", "x", term), lambda term: ("put", "a", term, 0), lambda term: ("put", "a", 0, term),
                     lambda term: ("if", term, (), ()), lambda term: ("loop", 1, term, ())):
            self.good(of(make(four)))
            self.bad(of(make(five)))

    def test_arrays_names_and_variables(self):
        self.good(of(("set", "x", ("at", "a", "y"))), of(("put", "c", "x", ("at", "a", 0))))
        for statement in (
            ("set", "a", 0), ("set", "x", "a"), ("set", "x", ("at", "x", 0)), ("set", "x", ("at", "b", 0)),
            ("set", "x", ("at", "a", "c")), ("put", "x", 0, 0), ("put", "b", 0, 0), ("put", "a", "a", 0),
            ("put", "a", 0, "a"), ("if", "a", (), ()), ("if", ("at", "x", 0), (), ()), ("loop", 1, "c", ()),
            ("set", "x", ("+", 1, "c")), ("set", "x", ("+", "c", 1)), ("set", "x", ("*", ("at", "b", 0), 1)),
            ("set", "x", ("*", 1, ("at", "b", 0))), ("set", "x", ("at", "a", ("at", "b", 0))),
        ):
            self.bad(of(statement), of(("if", 0, (statement,), ())), of(("if", 0, (), (statement,))),
                     of(("loop", 1, 0, (statement,))))

    def test_names_alike(self):
        self.bad(((("x", 0, 1), ("x", 0, 1)), (), ()), ((), (("a", 1), ("a", 2)), ()), ((("a", 0, 1),), (("a", 1),), ()))
        self.bad(((("x", 0, 1), ("y", 0, 1), ("x", 0, 2)), (), ()), ((("y", 0, 1), ("a", 0, 1)), (("b", 1), ("a", 1)), ()))

    def test_six_variables(self):
        five = tuple([("set", name, 0) for name in "pqrst"])
        self.good(of(*five, ("set", "p", "u")), of(*five, ("put", "a", "u", "p")), ((("x", 0, 0),), (), five))
        self.bad(of(*five, ("set", "v", "u")), of(*five, ("put", "a", "u", "v")), ((("x", 0, 0), ("y", 0, 0)), (), five))
        self.bad(of(*five, ("if", "u", (("set", "v", 0),), ())), of(*five, ("if", "u", (), (("set", "v", 0),))),
                 of(*five, ("loop", 1, "u", (("set", "p", "v"),))), of(*five, ("set", "p", ("+", "u", "v"))),
                 of(*five, ("set", "p", ("at", "a", ("+", "u", "v")))), of(*five, ("put", "a", ("at", "a", "u"), "v")))
        self.good(((("x", 0, 0), ("y", 0, 0), ("z", 0, 0)), (), five[:3]))
        self.bad(((("x", 0, 0), ("y", 0, 0), ("z", 0, 0)), (), five[:4]))

    def test_variables_in_order(self):
        self.same(variables(((), (), ())), ())
        self.same(variables(WHOLE), ("x", "b", "y", "z"))
        self.same(variables(((("y", 0, 1), ("x", 0, 1)), (), ())), ("y", "x"))
        self.same(variables(((("m", 0, 1),), (("a", 4),), (
            ("set", "z", ("at", "a", ("+", "b", "m"))), ("if", "c", (), (("set", "z", "aa"),)), ("put", "a", "m", "d")))),
            ("m", "aa", "b", "c", "d", "z"))
        self.same(variables(of(("loop", 2, "y", (("put", "a", "x", "z"),)))), ("x", "y", "z"))

    def test_of_anything(self):
        for thing in ANYTHING + warped(WHOLE):
            if self.truth(is_program(thing)):
                variables(thing)
            else:
                self.refuses(NoProgram, variables, thing)
        self.bad(*unlikely(WHOLE))
        self.bad(*ANYTHING)


if __name__ == "__main__":
    unittest.main()
