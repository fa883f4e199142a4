import unittest

from pacebond.codes.codes import is_code
from pacebond.codes.runs import run
from pacebond.errors import NoCode
from pacebond.passes.threaded import threaded
from tests.samples import ANYTHING, Case, Picks, all_inputs, picked_code, unlikely

END = ("end",)
REST = ("rest",)


def of(*rows, asks=((0, 2), (0, 1)), many=3, shown=3, arrays=(3,)):
    return (asks, many, shown, arrays, rows + (END,))


class Threaded(Case):
    def becomes(self, rows, *wanted):
        self.same(threaded(of(*rows)), of(*wanted))

    def test_nothing_to_do(self):
        for rows in ((), (REST,), (("test", 0, 2), ("set", 0, 1)), (("go", 2), REST), (("set", 0, 1), ("count", 2), ("again", 2))):
            self.becomes(rows, *rows)

    def test_to_a_rest(self):
        self.becomes((("test", 0, 2), ("set", 0, 1), REST), ("test", 0, 3), ("set", 0, 1), REST)
        self.becomes((("go", 2), ("set", 0, 1), REST), ("go", 3), ("set", 0, 1), REST)
        self.becomes((("test", 0, 1), REST), ("test", 0, 2), REST)

    def test_to_a_go(self):
        self.becomes((("test", 0, 2), REST, ("go", 4), REST), ("test", 0, 4), REST, ("go", 4), REST)
        self.becomes((("go", 2), REST, ("go", 4), REST), ("go", 4), REST, ("go", 4), REST)

    def test_to_several_of_these_one_behind_another(self):
        rows = (("test", 1, 2), ("set", 0, 1), REST, REST, ("go", 6), ("set", 0, 2), ("go", 8), ("set", 0, 3), REST)
        self.becomes(rows, ("test", 1, 9), ("set", 0, 1), REST, REST, ("go", 9), ("set", 0, 2), ("go", 9), ("set", 0, 3), REST)

    def test_each_jump_by_itself(self):
        self.becomes((("test", 0, 3), ("test", 1, 4), ("go", 3), REST, ("set", 0, 1)),
                     ("test", 0, 4), ("test", 1, 4), ("go", 4), REST, ("set", 0, 1))

    def test_stops_at_all_else(self):
        for row in (("set", 0, 1), ("copy", 0, 1), ("*", 0, 1, 1), ("get", 0, 0, 1), ("put", 0, 1, 1), ("test", 0, 4)):
            self.becomes((("go", 2), REST, REST, row), ("go", 3), REST, REST, row)
        self.becomes((("go", 2), REST, REST, ("count", 2), ("again", 4)), ("go", 3), REST, REST, ("count", 2), ("again", 4))

    def test_again_leads_to_what_it_led_to(self):
        self.becomes((("count", 2), REST, ("set", 0, 1), ("again", 1)), ("count", 2), REST, ("set", 0, 1), ("again", 1))
        self.becomes((("count", 2), ("go", 3), REST, ("set", 0, 1), ("again", 1)),
                     ("count", 2), ("go", 3), REST, ("set", 0, 1), ("again", 1))

    def test_out_of_loops(self):
        rows = (("count", 2), ("test", 0, 3), ("set", 0, 1), ("go", 5), ("again", 1), REST, ("set", 1, 1))
        self.becomes(rows, ("count", 2), ("test", 0, 6), ("set", 0, 1), ("go", 6), ("again", 1), REST, ("set", 1, 1))
        rows = (("count", 2), ("test", 0, 3), ("set", 0, 1), REST, ("again", 1), ("set", 1, 1))
        self.becomes(rows, ("count", 2), ("test", 0, 4), ("set", 0, 1), REST, ("again", 1), ("set", 1, 1))

    def test_rows_that_are_not_come_to(self):
        self.becomes((("go", 3), ("test", 0, 2), REST), ("go", 3), ("test", 0, 3), REST)

    def test_heads_stay(self):
        for asks, many, shown, arrays in (((), 1, 0, ()), (((1, 2),), 16, 7, (6, 1))):
            code = of(("go", 1), REST, asks=asks, many=many, shown=shown, arrays=arrays)
            self.same(threaded(code), of(("go", 2), REST, asks=asks, many=many, shown=shown, arrays=arrays))

    def test_tells_what_it_told(self):
        changed = 0
        for seed in range(300):
            code = picked_code(Picks(seed), 25)
            told = threaded(code)
            changed += told != code
            self.assertIs(is_code(told), True)
            self.same(threaded(told), told)
            for row in told[4]:
                if row[0] in ("test", "go"):
                    self.assertNotIn(told[4][row[-1]][0], ("rest", "go"))
            for worths in all_inputs(code):
                self.same(run(told, worths), run(code, worths))
        self.assertGreater(changed, 30)

    def test_no_code(self):
        for thing in ANYTHING + unlikely(of(REST, ("go", 2))):
            self.refuses(NoCode, threaded, thing)

    def test_what_is_handed_in_stays(self):
        code = of(("go", 1), REST)
        threaded(code)
        self.same(code, of(("go", 1), REST))


if __name__ == "__main__":
    unittest.main()
