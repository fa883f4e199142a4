import unittest

from pacebond.codes.codes import is_code
from pacebond.codes.runs import run
from pacebond.errors import NoCode, NoPass
from pacebond.passes.exchanged import exchanged
from tests.samples import ANYTHING, FORTY, Case, Picks, all_inputs, picked_code, unlikely

END = ("end",)
REST = ("rest",)


def of(*rows, asks=((0, 2), (0, 1)), many=6, shown=6, arrays=(3, 4)):
    return (asks, many, shown, arrays, rows + (END,))


class Exchanged(Case):
    def goes(self, one, other):
        """The two may be exchanged, and exchanged again they are as they were."""
        code, wanted = of(REST, one, other, REST), of(REST, other, one, REST)
        self.same(exchanged(code, 1), wanted)
        self.same(exchanged(wanted, 1), code)

    def stays(self, one, other):
        self.refuses(NoPass, exchanged, of(REST, one, other, REST), 1)

    def test_rows_of_each_kind(self):
        kinds = (("set", 0, 7), ("copy", 1, 5), ("+", 2, 5, 5), ("*", 2, 5, 5), ("=", 2, 5, 5), ("get", 3, 0, 5),
                 ("put", 1, 5, 5), REST)
        for at, one in enumerate(kinds):
            for other in kinds[:at] + kinds[at + 1:]:
                if {one[1:2], other[1:2]} != {(2,)}:
                    self.goes(one, other)
        self.goes(REST, REST)
        self.goes(("set", 0, 1), ("set", 1, 1))

    def test_rows_of_other_kinds(self):
        for row in (("test", 0, 3), ("test", 0, 4), ("go", 3), ("go", 4)):
            self.stays(row, REST)
            self.refuses(NoPass, exchanged, of(REST, REST, row, REST), 1)
        loop = of(REST, ("count", 2), REST, ("again", 2), REST)
        self.same([self.refuses(NoPass, exchanged, loop, row) is None for row in range(6)], [False] * 6)

    def test_both_give_one(self):
        for one in (("set", 2, 1), ("copy", 2, 0), ("+", 2, 0, 0), ("get", 2, 0, 0)):
            for other in (("set", 2, 5), ("copy", 2, 1), ("*", 2, 1, 1), ("get", 2, 1, 1)):
                self.stays(one, other)
                self.stays(other, one)

    def test_the_one_gives_what_the_other_one_reads(self):
        for one in (("set", 2, 1), ("copy", 2, 0), ("+", 2, 0, 0), ("get", 2, 0, 0)):
            for other in (("copy", 3, 2), ("+", 3, 2, 0), ("+", 3, 0, 2), ("get", 3, 1, 2), ("put", 1, 2, 1), ("put", 1, 1, 2)):
                self.stays(one, other)
                self.stays(other, one)

    def test_both_read_one(self):
        for one in (("copy", 2, 0), ("+", 3, 0, 0), ("get", 4, 0, 0)):
            for other in (("copy", 5, 0), ("*", 5, 0, 1), ("get", 5, 1, 0), ("put", 1, 0, 0)):
                self.goes(one, other)

    def test_one_array_and_a_put_among_them(self):
        for array in (0, 1):
            put, get = ("put", array, 0, 1), ("get", 2, array, 0)
            self.stays(put, ("put", array, 1, 0))
            self.stays(put, put)
            self.stays(put, get)
            self.stays(get, put)
            self.goes(get, ("get", 3, array, 0))
            self.goes(put, ("put", 1 - array, 1, 0))
            self.goes(put, ("get", 2, 1 - array, 0))
            self.goes(put, ("set", 2, 0))

    def test_jumps_to_the_second_row(self):
        for jump in (("test", 5, 2), ("go", 2)):
            self.refuses(NoPass, exchanged, of(jump, REST, ("set", 0, 1)), 1)
            # to the first one, or behind both
            for to in (1, 3):
                code = of(jump[:-1] + (to,), REST, ("set", 0, 1))
                self.same(exchanged(code, 1), of(jump[:-1] + (to,), ("set", 0, 1), REST))
        # from a row that isn't come to, too
        self.refuses(NoPass, exchanged, of(("go", 4), ("go", 3), REST, ("set", 0, 1)), 2)

    def test_agains(self):
        # the first row of a loop's own is the first one of the two here, and stays the one that the again goes to
        code = of(("count", 2), ("set", 0, 1), ("set", 1, 1), ("again", 1))
        self.same(exchanged(code, 1), of(("count", 2), ("set", 1, 1), ("set", 0, 1), ("again", 1)))
        # the again's row behind a row behind the count
        self.refuses(NoPass, exchanged, code, 0)
        self.refuses(NoPass, exchanged, code, 2)
        self.refuses(NoPass, exchanged, code, 3)

    def test_the_last_rows(self):
        code = of(REST, ("set", 0, 1))
        self.same(exchanged(code, 0), of(("set", 0, 1), REST))
        self.refuses(NoPass, exchanged, code, 1)
        self.refuses(NoPass, exchanged, code, 2)
        self.refuses(NoPass, exchanged, of(), 0)

    def test_no_rows(self):
        code = of(*[("set", at % 6, 1) for at in range(12)])
        for thing in ANYTHING + [FORTY, 11, 12, 13]:
            if type(thing) is int and 0 <= thing <= 10:
                exchanged(code, thing)
            else:
                self.refuses(NoPass, exchanged, code, thing)

    def test_heads_stay(self):
        code = of(REST, ("set", 0, 1), asks=((1, 9),), many=9, shown=3, arrays=(5,))
        self.same(exchanged(code, 0), of(("set", 0, 1), REST, asks=((1, 9),), many=9, shown=3, arrays=(5,)))

    def test_tells_what_it_told(self):
        found = 0
        for seed in range(300):
            code = picked_code(Picks(seed), 25)
            begun = repr(code)
            for row in range(len(code[4])):
                try:
                    told = exchanged(code, row)
                except NoPass:
                    continue
                found += 1
                self.assertIs(is_code(told), True)
                rows = list(code[4])
                rows[row:row + 2] = rows[row + 1], rows[row]
                self.same(told, code[:4] + (tuple(rows),))
                self.same(exchanged(told, row), code)
                for worths in all_inputs(code):
                    self.same(run(told, worths), run(code, worths))
            self.assertEqual(repr(code), begun)
        self.assertGreater(found, 200)

    def test_no_code(self):
        for thing in ANYTHING + unlikely(of(REST, ("go", 2))):
            self.refuses(NoCode, exchanged, thing, None)


if __name__ == "__main__":
    unittest.main()
