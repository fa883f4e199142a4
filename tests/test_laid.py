import unittest

from pacebond.codes.codes import is_code
from pacebond.codes.runs import run, trace
from pacebond.errors import NoCode, NoPass, TooLong
from pacebond.passes.laid import laid
from tests.samples import ANYTHING, Case, Picks, all_inputs, picked_code, unlikely

END = ("end",)
REST = ("rest",)


def of(*rows, asks=((0, 2), (0, 1)), many=3, shown=3, arrays=(3,)):
    return (asks, many, shown, arrays, rows + (END,))


class Laid(Case):
    LOOP = of(
        ("test", 0, 4),      # 0
        ("count", 2),        # 1
        ("test", 1, 4),      # 2
        ("again", 2),        # 3
        ("set", 0, 1),       # 4
        ("go", 6))           # 5

    def test_ahead_of_each_row(self):
        for row, rows in (
            (0, (REST, ("test", 0, 5), ("count", 2), ("test", 1, 5), ("again", 3), ("set", 0, 1), ("go", 7))),
            (1, (("test", 0, 5), REST, ("count", 2), ("test", 1, 5), ("again", 3), ("set", 0, 1), ("go", 7))),
            (3, (("test", 0, 5), ("count", 2), ("test", 1, 5), REST, ("again", 2), ("set", 0, 1), ("go", 7))),
            (4, (("test", 0, 5), ("count", 2), ("test", 1, 5), ("again", 2), REST, ("set", 0, 1), ("go", 7))),
            (5, (("test", 0, 4), ("count", 2), ("test", 1, 4), ("again", 2), ("set", 0, 1), REST, ("go", 7))),
            (6, (("test", 0, 4), ("count", 2), ("test", 1, 4), ("again", 2), ("set", 0, 1), ("go", 7), REST)),
        ):
            self.same(laid(self.LOOP, row), of(*rows))

    def test_behind_a_count(self):
        self.refuses(NoPass, laid, self.LOOP, 2)
        self.refuses(NoPass, laid, of(("count", 2), ("again", 1)), 1)
        self.refuses(NoPass, laid, of(("count", 2), ("count", 2), ("again", 2), ("again", 1)), 1)
        self.same(laid(of(("count", 2), ("again", 1)), 0), of(REST, ("count", 2), ("again", 2)))
        self.same(laid(of(("count", 2), ("again", 1)), 2), of(("count", 2), ("again", 1), REST))

    def test_ahead_of_the_again_s_own_row(self):
        code = of(("count", 2), ("test", 0, 3), REST, ("again", 1))
        self.same(laid(code, 3), of(("count", 2), ("test", 0, 4), REST, REST, ("again", 1)))

    def test_jumps_to_it_go_behind_the_rest(self):
        code = of(("test", 0, 2), ("set", 0, 1), ("set", 1, 1))
        self.same(laid(code, 2), of(("test", 0, 3), ("set", 0, 1), REST, ("set", 1, 1)))
        self.same(trace(laid(code, 2), (0, 0)), (0, 3, 4))
        self.same(trace(laid(code, 2), (1, 0)), (0, 1, 2, 3, 4))
        # also from the row ahead of it
        self.same(laid(of(("go", 1)), 1), of(("go", 2), REST))
        self.same(laid(of(("test", 0, 1)), 1), of(("test", 0, 2), REST))

    def test_the_least_code(self):
        self.same(laid(of(), 0), of(REST))

    def test_just_as_many_rows_as_may_be(self):
        for many in (58, 59, 60):
            code = of(*[("set", 0, 1)] * (many - 1))
            self.assertEqual(len(code[4]), many)
            for row in (0, 30, many - 1):
                if many < 60:
                    told = laid(code, row)
                    self.assertIs(is_code(told), True)
                    self.assertEqual(told[4][row], REST)
                    self.assertEqual(len(told[4]), many + 1)
                else:
                    self.refuses(TooLong, laid, code, row)

    def test_too_long_behind_no_pass(self):
        code = of(("count", 2), ("again", 1), *[REST] * 57)
        self.assertEqual(len(code[4]), 60)
        self.refuses(NoPass, laid, code, 1)
        self.refuses(NoPass, laid, code, 60)
        self.refuses(NoPass, laid, code, None)
        self.refuses(TooLong, laid, code, 2)

    def test_no_rows(self):
        for code in (of(), self.LOOP, of(*[("set", 0, 1)] * 59)):
            for thing in ANYTHING + [len(code[4])]:
                if not (type(thing) is int and 0 <= thing < len(code[4])):
                    self.refuses(NoPass, laid, code, thing)

    def test_heads_stay(self):
        heads = {"asks": ((1, 9),), "many": 9, "shown": 3, "arrays": (5,)}
        self.same(laid(of(**heads), 0), of(REST, **heads))

    def test_tells_what_it_told(self):
        found = 0
        for seed in range(200):
            code = picked_code(Picks(seed), 20)
            begun = repr(code)
            for row in range(len(code[4])):
                if row and code[4][row - 1][0] == "count":
                    self.refuses(NoPass, laid, code, row)
                    continue
                found += 1
                told = laid(code, row)
                self.assertIs(is_code(told), True)
                for worths in all_inputs(code):
                    self.same(run(told, worths), run(code, worths))
                    # but for the rest it comes to the same rows, and to the rest only from the row ahead of it
                    came = trace(told, worths)
                    self.same(tuple([at - (at > row) for at in came if at != row]), trace(code, worths))
                    for at, here in enumerate(came):
                        self.assertTrue(here != row or at == 0 or came[at - 1] == row - 1)
            self.assertEqual(repr(code), begun)
        self.assertGreater(found, 500)

    def test_no_code(self):
        for thing in ANYTHING + unlikely(of(REST, ("go", 2))):
            self.refuses(NoCode, laid, thing, None)


if __name__ == "__main__":
    unittest.main()
