import unittest

from pacebond.errors import NoInput, NoProgram
from pacebond.text.plain import plainly, rounds
from tests.samples import ANYTHING, Case


def of(*body, asks=(), arrays=()):
    return (asks, arrays, body)


DOWN = ("set", "x", ("-", "x", 1))
X = (("x", 0, 9),)


class Plain(Case):
    def told(self, program, worths, wanted, many=0):
        self.same(plainly(program, worths), wanted)
        self.same(rounds(program, worths), many)

    def test_nothing(self):
        self.told(of(), (), ((), ()))
        self.told(of(asks=(("y", 3, 9), ("x", 0, 255)), arrays=(("b", 2), ("a", 1))), (4, 255), ((4, 255), ((0, 0), (0,))))

    def test_set(self):
        self.told(of(("set", "x", 7)), (), ((7,), ()))
        self.told(of(("set", "x", "y")), (), ((0, 0), ()))
        self.told(of(("set", "z", "x"), ("set", "x", ("*", "x", 100)), asks=X), (3,), ((44, 3), ()))
        self.told(of(("set", "x", ("-", 0, ("+", "x", 1))), asks=X), (9,), ((246,), ()))

    def test_each_op_and_its_order(self):
        for word, wanted in (("+", 10), ("-", 252), ("*", 21), ("<", 1), ("=", 0)):
            self.told(of(("set", "x", (word, 3, 7))), (), ((wanted,), ()))
        for word, wanted in (("+", 10), ("-", 4), ("*", 21), ("<", 0), ("=", 0)):
            self.told(of(("set", "x", (word, 7, 3))), (), ((wanted,), ()))

    def test_variables_rise_behind_the_asks(self):
        self.told(of(("set", "b", 1), ("set", "a", 2), asks=X), (5,), ((5, 2, 1), ()))

    def test_put_and_at(self):
        arrays = (("a", 4), ("b", 3))
        self.told(of(("put", "a", 1, 9), ("put", "b", 0, ("at", "a", 1)), arrays=arrays), (), ((), ((0, 9, 0, 0), (9, 0, 0))))
        self.told(of(("put", "a", ("+", "x", 1), "x"), ("set", "y", ("at", "a", 2)), asks=X, arrays=arrays), (1,),
                  ((1, 1), ((0, 0, 1, 0), (0, 0, 0))))

    def test_cells_numbered_beyond(self):
        arrays = (("a", 3),)
        self.told(of(("put", "a", 3, 1), ("put", "a", 7, 2), ("put", "a", 254, 3), arrays=arrays), (), ((), ((1, 2, 3),)))
        self.told(of(("put", "a", 0, 5), ("put", "a", 2, 6), ("set", "x", ("at", "a", 255)), ("set", "y", ("at", "a", 5)),
                     arrays=arrays), (), ((5, 6), ((5, 0, 6),)))
        self.told(of(("put", "a", 255, 8), arrays=(("a", 1),)), (), ((), ((8,),)))

    def test_if(self):
        program = of(("if", "x", (("set", "y", 1), ("set", "x", 0)), (("set", "y", 2),)), asks=X)
        self.told(program, (0,), ((0, 2), ()))
        self.told(program, (1,), ((0, 1), ()))
        self.told(program, (9,), ((0, 1), ()))
        self.told(of(("if", 0, (("set", "y", 1),), ())), (), ((0,), ()))

    def test_loop_that_ends_by_its_term(self):
        program = of(("loop", 6, "x", (DOWN, ("set", "y", ("+", "y", 2)))), asks=X)
        self.told(program, (0,), ((0, 0), ()), 0)
        self.told(program, (1,), ((0, 2), ()), 1)
        self.told(program, (4,), ((0, 8), ()), 4)
        self.told(program, (6,), ((0, 12), ()), 6)

    def test_loop_that_ends_by_its_most(self):
        program = of(("loop", 3, "x", (DOWN,)), asks=X)
        self.told(program, (2,), ((0,), ()), 2)
        self.told(program, (3,), ((0,), ()), 3)
        self.told(program, (4,), ((1,), ()), 3)
        self.told(program, (9,), ((6,), ()), 3)
        self.told(of(("loop", 1, 1, ())), (), ((), ()), 1)
        self.told(of(("loop", 6, 255, ())), (), ((), ()), 6)

    def test_rounds_of_loops_within_loops(self):
        inner = ("loop", 3, "y", (("set", "y", ("-", "y", 1)), ("set", "z", ("+", "z", 1))))
        program = of(("loop", 6, "x", (DOWN, ("set", "y", 2), inner)), asks=X)
        self.told(program, (2,), ((0, 0, 4), ()), 6)
        self.told(program, (0,), ((0, 0, 0), ()), 0)
        self.told(program, (9,), ((3, 0, 12), ()), 18)
        self.told(of(("loop", 6, 1, (("loop", 6, 1, ()),)), ("loop", 2, 1, ())), (), ((), ()), 44)
        self.told(of(("if", 1, (("loop", 2, 1, ()),), (("loop", 5, 1, ()),)), ("if", 0, (), (("loop", 4, 1, ()),))), (),
                  ((), ()), 6)

    def test_inputs_that_are_none(self):
        program = of(asks=(("x", 2, 5), ("y", 0, 0)))
        self.told(program, (2, 0), ((2, 0), ()))
        self.told(program, (5, 0), ((5, 0), ()))
        for worths in ((1, 0), (6, 0), (3, 1), (3,), (3, 0, 0), [3, 0], (3, False), ("3", 0), (3, None), (), None, {}, 3):
            self.refuses(NoInput, plainly, program, worths)
            self.refuses(NoInput, rounds, program, worths)
        self.refuses(NoInput, plainly, of(asks=(("x", 0, 1),)), (True,))
        for thing in ANYTHING:
            if thing != ():
                self.refuses(NoInput, plainly, of(), thing)
                self.refuses(NoInput, rounds, of(), thing)

    def test_the_program_is_refused_first(self):
        for thing in ANYTHING:
            for worths in ((), (1,), None):
                self.refuses(NoProgram, plainly, thing, worths)
                self.refuses(NoProgram, rounds, thing, worths)

    def test_what_is_handed_in_stays(self):
        program = of(("loop", 3, "x", (DOWN, ("put", "a", "x", 7))), asks=X, arrays=(("a", 2),))
        kept = repr(program)
        worths = (3,)
        first = plainly(program, worths)
        self.same(plainly(program, worths), first)
        self.assertEqual((repr(program), worths), (kept, (3,)))


if __name__ == "__main__":
    unittest.main()
