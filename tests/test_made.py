import unittest

from pacebond.codes.codes import is_code
from pacebond.codes.made import made
from pacebond.codes.runs import run
from pacebond.errors import NoProgram, TooLong
from pacebond.text.plain import plainly
from pacebond.text.programs import is_program, variables
from tests.samples import ANYTHING, Case, Picks, all_inputs, unlikely

END = ("end",)
XY = (("x", 0, 3), ("y", 1, 2))
ARRAYS = (("a", 4), ("b", 3))


def of(*body, asks=XY, arrays=ARRAYS):
    """A program whose x and y are registers 0 and 1, and whose other registers begin at 2."""
    return (asks, arrays, body)


def deep(many, word="+"):
    """A term of so many ops within one another, each but the last in the place of the second term."""
    term = 9
    for at in range(many):
        term = (word, at, term)
    return term


def long_body(many):
    """At most eight sets that take so many rows: a term of so many ops takes one more than twice as many."""
    body = ()
    while many:
        ops = min(4, (many - 1) // 2)
        body += (("set", "x", deep(ops)),)
        many -= 2 * ops + 1
    return body


class Rows(Case):
    def rows(self, body, *rows, **names):
        self.same(made(of(*body, **names))[4], rows + (END,))

    def set_rows(self, term, *rows):
        self.rows((("set", "x", term),), *rows)

    def test_set(self):
        self.set_rows(7, ("set", 0, 7))
        self.set_rows("y", ("copy", 0, 1))
        self.set_rows("x", ("copy", 0, 0))
        self.set_rows(("+", "x", "y"), ("+", 0, 0, 1))
        self.set_rows(("at", "b", "y"), ("get", 0, 1, 1))
        self.set_rows(("at", "a", 3), ("set", 2, 3), ("get", 0, 0, 2))

    def test_only_the_last_row_gives_the_variable(self):
        self.set_rows(("*", 5, 6), ("set", 2, 5), ("set", 3, 6), ("*", 0, 2, 3))
        self.set_rows(("+", 5, ("+", 5, 6)), ("set", 2, 5), ("set", 3, 5), ("set", 4, 6), ("+", 3, 3, 4), ("+", 0, 2, 3))
        self.set_rows(("at", "a", ("at", "a", 0)), ("set", 2, 0), ("get", 2, 0, 2), ("get", 0, 0, 2))

    def test_each_op(self):
        for word in "+-*<=":
            self.set_rows((word, "y", 4), ("set", 2, 4), (word, 0, 1, 2))

    def test_places(self):
        # a name takes no register, so the second term begins where the first one would have
        self.set_rows(("-", "x", 1), ("set", 2, 1), ("-", 0, 0, 2))
        self.set_rows(("-", 1, "x"), ("set", 2, 1), ("-", 0, 2, 0))
        self.set_rows(("-", ("+", "x", "y"), 1), ("+", 2, 0, 1), ("set", 3, 1), ("-", 0, 2, 3))
        self.set_rows(("-", ("+", "x", "y"), "y"), ("+", 2, 0, 1), ("-", 0, 2, 1))
        self.set_rows(("-", "y", ("+", "x", "y")), ("+", 2, 0, 1), ("-", 0, 1, 2))
        self.set_rows(("-", ("*", "x", 2), ("*", 3, "y")),
                      ("set", 2, 2), ("*", 2, 0, 2), ("set", 3, 3), ("*", 3, 3, 1), ("-", 0, 2, 3))
        self.set_rows(("-", ("*", 2, 3), ("*", 4, 5)), ("set", 2, 2), ("set", 3, 3), ("*", 2, 2, 3),
                      ("set", 3, 4), ("set", 4, 5), ("*", 3, 3, 4), ("-", 0, 2, 3))
        self.set_rows(("-", ("at", "b", "x"), 1), ("get", 2, 1, 0), ("set", 3, 1), ("-", 0, 2, 3))
        self.set_rows(("at", "b", ("-", 1, "x")), ("set", 2, 1), ("-", 2, 2, 0), ("get", 0, 1, 2))

    def test_put(self):
        self.rows((("put", "a", "x", "y"),), ("put", 0, 0, 1))
        self.rows((("put", "b", 1, "y"),), ("set", 2, 1), ("put", 1, 2, 1))
        self.rows((("put", "b", "x", 1),), ("set", 2, 1), ("put", 1, 0, 2))
        self.rows((("put", "a", 1, 2),), ("set", 2, 1), ("set", 3, 2), ("put", 0, 2, 3))
        self.rows((("put", "a", ("+", 1, "x"), ("at", "b", 2)),),
                  ("set", 2, 1), ("+", 2, 2, 0), ("set", 3, 2), ("get", 3, 1, 3), ("put", 0, 2, 3))

    def test_each_statement_begins_at_the_same_register(self):
        self.rows((("put", "a", 1, 2), ("set", "x", ("+", 1, 2))), ("set", 2, 1), ("set", 3, 2), ("put", 0, 2, 3),
                  ("set", 2, 1), ("set", 3, 2), ("+", 0, 2, 3))

    def test_if(self):
        some, others = (("set", "x", 1),), (("set", "x", 2), ("set", "y", 3))
        self.rows((("if", "x", some, ()),), ("test", 0, 2), ("set", 0, 1))
        self.rows((("if", "x", some, others),),
                  ("test", 0, 3), ("set", 0, 1), ("go", 5), ("set", 0, 2), ("set", 1, 3))
        self.rows((("if", "x", (), ()),), ("test", 0, 1))
        self.rows((("if", "x", (), some),), ("test", 0, 2), ("go", 3), ("set", 0, 1))
        self.rows((("if", ("<", "x", 2), some, ()),), ("set", 2, 2), ("<", 2, 0, 2), ("test", 2, 4), ("set", 0, 1))
        self.rows((("if", 1, some, ()), ("set", "y", 9)), ("set", 2, 1), ("test", 2, 3), ("set", 0, 1), ("set", 1, 9))

    def test_loop(self):
        self.rows((("loop", 3, "x", (("set", "x", ("-", "x", 1)),)),),
                  ("count", 3), ("test", 0, 5), ("set", 2, 1), ("-", 0, 0, 2), ("again", 1))
        self.rows((("loop", 6, "y", ()),), ("count", 6), ("test", 1, 3), ("again", 1))
        self.rows((("set", "x", 1), ("loop", 1, ("<", "x", "y"), (("set", "x", "y"),)), ("set", "y", 0)),
                  ("set", 0, 1), ("count", 1), ("<", 2, 0, 1), ("test", 2, 6), ("copy", 0, 1), ("again", 2), ("set", 1, 0))

    def test_loops_within_one_another(self):
        self.rows((("loop", 2, "x", (("loop", 3, "y", ()),)),),
                  ("count", 2), ("test", 0, 6), ("count", 3), ("test", 1, 5), ("again", 3), ("again", 1))

    def test_if_within_loop_within_if(self):
        inner = ("if", "y", (("set", "x", 0),), (("set", "x", 1),))
        body = (("if", "x", (("loop", 2, 1, (inner,)),), (("set", "y", 1),)),)
        self.rows(body,
                  ("test", 0, 10),   # 0
                  ("count", 2),      # 1
                  ("set", 2, 1),     # 2
                  ("test", 2, 9),    # 3
                  ("test", 1, 7),    # 4
                  ("set", 0, 0),     # 5
                  ("go", 8),         # 6
                  ("set", 0, 1),     # 7
                  ("again", 2),      # 8
                  ("go", 11),        # 9
                  ("set", 1, 1))     # 10

    def test_nothing(self):
        self.same(made(((), (), ())), ((), 1, 0, (), (END,)))


class Heads(Case):
    def test_asks_arrays_and_variables(self):
        self.same(made(of(("set", "c", 1), ("set", "b", 2), arrays=(("a", 6), ("d", 1)))),
                  (((0, 3), (1, 2)), 4, 4, (6, 1), (("set", 3, 1), ("set", 2, 2), END)))
        self.same(made(of(arrays=()))[:4], (((0, 3), (1, 2)), 2, 2, ()))
        # only the first array has a name ahead of the variable's
        self.same(made(((), (("z", 2), ("y", 5)), (("put", "y", 0, "x"),))),
                  ((), 2, 1, (2, 5), (("set", 1, 0), ("put", 1, 1, 0), END)))

    def test_how_many_registers(self):
        for body, many in (
            ((), 2), ((("set", "z", "x"),), 3), ((("set", "x", 5),), 2), ((("set", "x", ("+", "x", 1)),), 3),
            ((("if", 1, (), ()),), 3), ((("put", "a", 1, 2),), 4), ((("set", "x", deep(4)),), 7),
            ((("put", "a", 1, deep(4)),), 8), ((("set", "z", deep(4)), ("set", "x", 5)), 8),
        ):
            self.same(made(of(*body))[1], many)
        self.same(made(((), (), (("if", 0, (), ()),)))[1], 1)
        six = tuple([("set", name, deep(4)) for name in "cdef"])
        self.same(made(of(*six[:1], ("put", "a", 1, deep(4)), *six[1:]))[1], 12)


class Refused(Case):
    def test_just_as_many_rows_as_may_be(self):
        for many in (58, 59, 60, 61):
            program = of(*long_body(many))
            self.assertIs(is_program(program), True)
            if many <= 59:
                self.assertEqual(len(made(program)[4]), many + 1)
                self.assertIs(is_code(made(program)), True)
            else:
                self.refuses(TooLong, made, program)

    def test_far_more_rows(self):
        wide = ("+", ("+", ("+", ("+", 1, 2), ("+", 3, 4)), 5), ("+", ("+", ("+", 1, 2), ("+", 3, 4)), 5))
        self.refuses(TooLong, made, of(*(("put", "a", wide, wide),) * 8))

    def test_no_program(self):
        for thing in ANYTHING:
            self.refuses(NoProgram, made, thing)
        program = of(("loop", 3, "x", (("put", "a", 0, "x"),)))
        for thing in unlikely(program):
            self.refuses(NoProgram, made, thing)
        self.refuses(NoProgram, made, of(*(("set", "x", deep(5)),) * 8))
        self.refuses(NoProgram, made, of(*long_body(50), ("set", "a", 0)))
        self.refuses(NoProgram, made, of(*long_body(58), *long_body(58)))


def picked_term(picks, deep_left, arrays):
    kind = picks.below(6) if deep_left else picks.below(2)
    if kind == 0:
        return picks.below(5)
    if kind == 1:
        return picks.one(("x", "y", "z", "w"))
    if kind == 2 and arrays:
        return ("at", picks.one(arrays)[0], picked_term(picks, deep_left - 1, arrays))
    return (picks.one("+-*<="), picked_term(picks, deep_left - 1, arrays), picked_term(picks, deep_left - 1, arrays))


def picked_body(picks, left, loops_left, arrays):
    body = ()
    for _ in range(picks.below(4)):
        kind = picks.below(5)
        terms = [picked_term(picks, 2, arrays), picked_term(picks, 2, arrays)]
        if kind == 0 and arrays:
            body += (("put", picks.one(arrays)[0], *terms),)
        elif kind == 1 and left:
            body += (("if", terms[0], *[picked_body(picks, left - 1, loops_left, arrays) for _ in range(2)]),)
        elif kind == 2 and left and loops_left:
            body += (("loop", 1 + picks.below(4), terms[0], picked_body(picks, left - 1, loops_left - 1, arrays)),)
        else:
            body += (("set", picks.one(("x", "y", "z", "w")), terms[0]),)
    return body


class Tells(Case):
    def test_what_the_program_tells(self):
        tried = 0
        for seed in range(400):
            picks = Picks(seed)
            arrays = (("a", 1 + picks.below(6)), ("b", 1 + picks.below(6)))[:picks.below(3)]
            program = (XY[:picks.below(3)], arrays, picked_body(picks, 3, 2, arrays))
            if not is_program(program):
                continue
            try:
                code = made(program)
            except TooLong:
                continue
            tried += 1
            self.assertIs(is_code(code), True)
            self.assertEqual(code[2], len(variables(program)))
            for worths in all_inputs(code):
                self.same(run(code, worths), plainly(program, worths))
        self.assertGreater(tried, 200)

    def test_what_is_handed_in_stays(self):
        program = of(("set", "x", ("+", "x", 1)))
        begun = repr(program)
        self.same(made(program), made(program))
        self.assertEqual(repr(program), begun)


if __name__ == "__main__":
    unittest.main()
