import unittest

from pacebond.codes.codes import around, is_code, ways_from
from pacebond.codes.runs import INPUTS, inputs, is_input, run, stand, trace
from pacebond.errors import NoCode, NoInput, NoNumber, TooWide
from tests.samples import ANYTHING, Case, Picks, all_inputs, picked_code, put_at

END = ("end",)


def of(*rows, asks=((0, 255), (0, 255)), many=4, shown=4, arrays=()):
    return (asks, many, shown, arrays, rows + (END,))


# The inner loop is left amid where register 0 is 0, and begun anew by each round of the outer one.
LOOPS = of(
    ("set", 2, 1),        # 0
    ("count", 3),         # 1
    ("count", 2),         # 2
    ("test", 0, 6),       # 3
    ("+", 1, 1, 2),       # 4
    ("again", 3),         # 5
    ("-", 0, 0, 2),       # 6
    ("again", 2),         # 7
    asks=((0, 9),), many=3, shown=2,
)


class Told(Case):
    def told(self, code, worths, wanted):
        self.same(run(code, worths), wanted)

    def test_nothing(self):
        self.told(((), 1, 0, (), (END,)), (), ((), ()))
        self.told(((), 2, 1, (2, 1), (END,)), (), ((0,), ((0, 0), (0,))))
        self.told(of(), (7, 9), ((7, 9, 0, 0), ()))

    def test_shown(self):
        for shown in range(5):
            self.told(of(("set", 3, 5), shown=shown), (7, 9), ((7, 9, 0, 5)[:shown], ()))

    def test_set_and_copy(self):
        self.told(of(("set", 2, 255), ("set", 0, 0)), (7, 9), ((0, 9, 255, 0), ()))
        self.told(of(("copy", 2, 1), ("copy", 1, 0)), (7, 9), ((7, 7, 9, 0), ()))

    def test_ops(self):
        for word, wanted in (("+", 4), ("-", 246), ("*", 235), ("<", 1), ("=", 0)):
            self.told(of((word, 2, 0, 1)), (125, 135), ((125, 135, wanted, 0), ()))
        for word, wanted in (("+", 4), ("-", 10), ("*", 235), ("<", 0), ("=", 0)):
            self.told(of((word, 0, 1, 0)), (125, 135), ((wanted, 135, 0, 0), ()))
        self.told(of(("=", 2, 0, 1), ("<", 3, 0, 1)), (8, 8), ((8, 8, 1, 0), ()))

    def test_get_and_put(self):
        code = of(("put", 1, 0, 1), ("get", 2, 1, 0), ("get", 3, 0, 0), arrays=(2, 3))
        self.told(code, (2, 9), ((2, 9, 9, 0), ((0, 0), (0, 0, 9))))
        self.told(code, (1, 9), ((1, 9, 9, 0), ((0, 0), (0, 9, 0))))

    def test_cells_numbered_beyond(self):
        put = of(("put", 0, 0, 1), arrays=(3,), shown=0)
        for number, cells in ((0, (9, 0, 0)), (3, (9, 0, 0)), (4, (0, 9, 0)), (5, (0, 0, 9)), (254, (0, 0, 9)), (255, (9, 0, 0))):
            self.told(put, (number, 9), ((), (cells,)))
        get = of(("put", 0, 3, 1), ("get", 2, 0, 0), arrays=(3,), shown=3)
        for number, got in ((0, 9), (1, 0), (3, 9), (4, 0), (5, 0), (255, 9)):
            self.told(get, (number, 9), ((number, 9, got), ((9, 0, 0),)))

    def test_jumps(self):
        test = of(("test", 0, 3), ("set", 2, 1), ("go", 4), ("set", 2, 2))
        self.told(test, (0, 0), ((0, 0, 2, 0), ()))
        self.told(test, (1, 0), ((1, 0, 1, 0), ()))
        self.told(test, (255, 0), ((255, 0, 1, 0), ()))
        self.same(trace(test, (0, 9)), (0, 3, 4))
        self.same(trace(test, (9, 0)), (0, 1, 2, 4))

    def test_rest(self):
        self.told(of(("rest",), ("rest",)), (7, 9), ((7, 9, 0, 0), ()))
        self.same(trace(of(("rest",), ("rest",)), (0, 0)), (0, 1, 2))

    def test_loops_of_one_round_and_of_more(self):
        for many in range(1, 7):
            code = of(("set", 2, 1), ("count", many), ("+", 0, 0, 2), ("again", 2))
            self.told(code, (10, 0), ((10 + many, 0, 1, 0), ()))
            self.same(trace(code, (0, 0)), (0, 1) + (2, 3) * many + (4,))
            self.same(trace(of(("count", many), ("again", 1)), (0, 0)), (0,) + (1,) * many + (2,))

    def test_loops_within_one_another(self):
        self.told(LOOPS, (9,), ((6, 6), ()))
        self.told(LOOPS, (3,), ((0, 6), ()))
        self.told(LOOPS, (2,), ((255, 4), ()))
        self.told(LOOPS, (0,), ((253, 4), ()))

    def test_loops_left_amid_and_begun_anew(self):
        self.same(trace(LOOPS, (2,)), (0, 1, 2, 3, 4, 5, 3, 4, 5, 6, 7, 2, 3, 4, 5, 3, 4, 5, 6, 7, 2, 3, 6, 7, 8))
        # the jump leaves the inner loop ahead of its last round, and its count gives all rounds anew
        code = of(("count", 2), ("count", 3), ("test", 0, 4), ("again", 2), ("set", 0, 5), ("again", 1))
        self.same(trace(code, (0, 0)), (0, 1, 2, 4, 5, 1, 2, 3, 2, 3, 2, 3, 4, 5, 6))
        # out of both at once
        both = of(("count", 6), ("count", 6), ("test", 0, 5), ("again", 2), ("again", 1), ("set", 3, 4))
        self.same(trace(both, (0, 0)), (0, 1, 2, 5, 6))

    def test_trace_begins_at_row_0_and_ends_at_end(self):
        self.same(trace(((), 1, 0, (), (END,)), ()), (0,))
        for seed in range(40):
            code = picked_code(Picks(seed))
            self.assertTrue(is_code(code), code)
            for worths in all_inputs(code)[:4]:
                told = trace(code, worths)
                self.assertEqual((told[0], told[-1]), (0, len(code[4]) - 1))
                for row, behind in zip(told, told[1:]):
                    self.assertIn(behind, ways_from(code, row))


class Stand(Case):
    def test_first_middle_and_last(self):
        self.same(stand(LOOPS, (2,), 0), (0, (), (2, 0, 0), ()))
        self.same(stand(LOOPS, (2,), 1), (1, (), (2, 0, 1), ()))
        self.same(stand(LOOPS, (2,), 2), (2, (3,), (2, 0, 1), ()))
        self.same(stand(LOOPS, (2,), 3), (3, (3, 2), (2, 0, 1), ()))
        self.same(stand(LOOPS, (2,), 5), (5, (3, 2), (2, 1, 1), ()))
        self.same(stand(LOOPS, (2,), 6), (3, (3, 1), (2, 1, 1), ()))
        self.same(stand(LOOPS, (2,), 9), (6, (3,), (2, 2, 1), ()))
        self.same(stand(LOOPS, (2,), 11), (2, (2,), (1, 2, 1), ()))
        self.same(stand(LOOPS, (2,), 12), (3, (2, 2), (1, 2, 1), ()))
        self.same(stand(LOOPS, (2,), 21), (3, (1, 2), (0, 4, 1), ()))
        self.same(stand(LOOPS, (2,), 22), (6, (1,), (0, 4, 1), ()))
        self.same(stand(LOOPS, (2,), 24), (8, (), (255, 4, 1), ()))

    def test_cells_and_registers_that_are_not_shown(self):
        code = of(("put", 0, 0, 1), ("put", 1, 0, 0), shown=0, arrays=(2, 3))
        self.same(stand(code, (5, 9), 0), (0, (), (5, 9, 0, 0), ((0, 0), (0, 0, 0))))
        self.same(stand(code, (5, 9), 1), (1, (), (5, 9, 0, 0), ((0, 9), (0, 0, 0))))
        self.same(stand(code, (5, 9), 2), (2, (), (5, 9, 0, 0), ((0, 9), (0, 0, 5))))

    def test_numbers_that_there_are_none_of(self):
        self.assertEqual(len(trace(LOOPS, (2,))), 25)
        for number in (25, 26, -1, 10 ** 40 - 1, True, False, None, "0", (0,), [0], {}):
            refusal = self.refuses(NoNumber, stand, LOOPS, (2,), number)
            self.assertIs(refusal.number, number)
        self.same(stand(((), 1, 0, (), (END,)), (), 0), (0, (), (0,), ()))
        self.refuses(NoNumber, stand, ((), 1, 0, (), (END,)), (), 1)

    def test_agrees_with_trace_and_run(self):
        for seed in range(60):
            code = picked_code(Picks(seed))
            for worths in all_inputs(code)[:3]:
                told = trace(code, worths)
                for number, row in enumerate(told):
                    stood = stand(code, worths, number)
                    self.assertEqual(stood[0], row)
                    counts = around(code, row)
                    self.assertEqual(len(stood[1]), len(counts))
                    for left, count in zip(stood[1], counts):
                        self.assertIn(left, range(1, code[4][count][1] + 1))
                self.same((stood[2][:code[2]], stood[3]), run(code, worths))


class Inputs(Case):
    def test_is_input(self):
        code = of(asks=((2, 5), (0, 0)))
        for worths in ((2, 0), (3, 0), (5, 0)):
            self.assertIs(is_input(code, worths), True)
        for thing in ((1, 0), (6, 0), (3, 1), (3,), (3, 0, 0), [3, 0], (3, False), ("3", 0), (3, None), (), {}, (3, (0,))):
            self.assertIs(is_input(code, thing), False, thing)
            for call in (run, trace):
                self.refuses(NoInput, call, code, thing)
            self.refuses(NoInput, stand, code, thing, 0)
        self.assertIs(is_input(of(asks=()), ()), True)
        for thing in ANYTHING:
            self.assertIs(is_input(of(asks=()), thing), repr(thing) == "()")

    def test_all_rising(self):
        self.same(inputs(of(asks=())), ((),))
        self.same(inputs(of(asks=((4, 6),))), ((4,), (5,), (6,)))
        self.same(inputs(of(asks=((4, 5), (7, 7), (0, 2)))),
                  ((4, 7, 0), (4, 7, 1), (4, 7, 2), (5, 7, 0), (5, 7, 1), (5, 7, 2)))

    def test_just_400_and_more(self):
        self.same(INPUTS, 400)
        told = inputs(of(asks=((1, 20), (236, 255))))
        self.assertEqual((len(told), told[0], told[-1]), (400, (1, 236), (20, 255)))
        self.same(told, tuple(sorted(told)))
        for asks in (((0, 200), (0, 1)), ((0, 20), (0, 19)), ((0, 255), (0, 255), (0, 255))):
            self.refuses(TooWide, inputs, of(asks=asks))
        self.assertEqual(len(inputs(of(asks=((0, 255),)))), 256)

    def test_runs_of_codes_with_more_inputs(self):
        code = of(("+", 2, 0, 1))
        self.same(run(code, (200, 100)), ((200, 100, 44, 0), ()))
        self.same(trace(code, (200, 100)), (0, 1))
        self.same(stand(code, (200, 100), 1), (1, (), (200, 100, 44, 0), ()))
        self.assertIs(is_input(code, (255, 255)), True)


class Refused(Case):
    def test_in_order(self):
        for thing in ANYTHING:
            for worths in ((0, 0), None):
                self.refuses(NoCode, is_input, thing, worths)
                self.refuses(NoCode, run, thing, worths)
                self.refuses(NoCode, trace, thing, worths)
                self.refuses(NoCode, stand, thing, worths, None)
            self.refuses(NoCode, inputs, thing)
            if thing not in ((1, 2), [1, 2]):
                self.refuses(NoInput, stand, of(), thing, None)
        wide = put_at(of(), (1,), 0)
        self.refuses(NoCode, inputs, wide)


if __name__ == "__main__":
    unittest.main()
