import unittest

from pacebond.codes.codes import is_code, ways_from
from pacebond.codes.runs import run, stand, trace
from pacebond.errors import NoCode
from pacebond.passes.folded import folded, known_of
from pacebond.text.terms import OPS
from tests.samples import ANYTHING, Case, Picks, all_inputs, picked_code, unlikely

END = ("end",)
REST = ("rest",)


def of(*rows, asks=((0, 9),), many=3, shown=3, arrays=(3,)):
    """A code whose register 0 is asked for, and 1 and 2 are 0 at first."""
    return (asks, many, shown, arrays, rows + (END,))


def grown(code):
    """What is known ahead of each row, worked out anew for all rows again and again till nothing changes."""
    rows = code[4]
    known = {0: {one: 0 for one in range(len(code[0]), code[1])}}
    while True:
        ways = [(at, to) for at in known for to in taken(code, at, known[at])]
        told = {0: known[0]}
        for to in {to for _, to in ways}:
            all_behind = [behind(rows[at], known[at]).items() for at, one in ways if one == to]
            told[to] = dict(set(all_behind[0]).intersection(*all_behind[1:]))
        if told == known:
            return tuple([tuple(sorted(known[at].items())) if at in known else None for at in range(len(rows))])
        known = told


def taken(code, at, known):
    row = code[4][at]
    if row[0] == "test" and row[1] in known:
        return [row[2] if known[row[1]] == 0 else at + 1]
    return ways_from(code, at)


def behind(row, known):
    told = dict(known)
    if row[0] in OPS or row[0] in ("set", "copy", "get"):
        told.pop(row[1], None)
    if row[0] == "set":
        told[row[1]] = row[2]
    if row[0] == "copy" and row[2] in known:
        told[row[1]] = known[row[2]]
    if row[0] in OPS and row[2] in known and row[3] in known:
        told[row[1]] = OPS[row[0]](known[row[2]], known[row[3]])
    return told


class Known(Case):
    def knows(self, code, *wanted):
        self.same(known_of(code), wanted)

    def test_at_first(self):
        self.knows(of(), ((1, 0), (2, 0)))
        self.knows(of(asks=()), ((0, 0), (1, 0), (2, 0)))
        self.knows(of(asks=((0, 1), (0, 1), (0, 1))), ())
        # also where only one worth is asked for
        self.knows(of(asks=((0, 0),), many=1, shown=1), ())

    def test_set_and_copied(self):
        self.knows(of(("set", 0, 255), ("copy", 1, 0), ("set", 0, 7)), ((1, 0), (2, 0)), ((0, 255), (1, 0), (2, 0)),
                   ((0, 255), (1, 255), (2, 0)), ((0, 7), (1, 255), (2, 0)))
        # of what isn't known the copy isn't known
        self.knows(of(("copy", 1, 0)), ((1, 0), (2, 0)), ((2, 0),))
        self.knows(of(("copy", 1, 1)), ((1, 0), (2, 0)), ((1, 0), (2, 0)))
        self.knows(of(("copy", 0, 0)), ((1, 0), (2, 0)), ((1, 0), (2, 0)))

    def test_made_by_ops(self):
        for op, wanted in (("+", 44), ("-", 100), ("*", 32), ("<", 0), ("=", 0)):
            code = of(("set", 1, 200), ("set", 2, 100), (op, 0, 1, 2), (op, 1, 1, 1))
            self.same(known_of(code)[3], ((0, wanted), (1, 200), (2, 100)))
            self.same(known_of(code)[4], ((0, wanted), (1, OPS[op](200, 200)), (2, 100)))
        # of one that isn't known nothing is known, whatever it would make
        for op in OPS:
            self.knows(of((op, 1, 2, 0)), ((1, 0), (2, 0)), ((2, 0),))
            self.knows(of((op, 1, 0, 2)), ((1, 0), (2, 0)), ((2, 0),))
            self.knows(of((op, 1, 0, 0)), ((1, 0), (2, 0)), ((2, 0),))

    def test_not_behind_get(self):
        self.knows(of(("get", 1, 0, 2), ("set", 1, 3)), ((1, 0), (2, 0)), ((2, 0),), ((1, 3), (2, 0)))

    def test_rows_that_give_nothing(self):
        for row in (REST, ("put", 0, 1, 2), ("go", 1)):
            self.knows(of(row), ((1, 0), (2, 0)), ((1, 0), (2, 0)))

    def test_two_ways_that_agree(self):
        code = of(("test", 0, 3), ("set", 1, 7), ("go", 4), ("set", 1, 7), REST)
        self.same(known_of(code)[4], ((1, 7), (2, 0)))
        code = of(("test", 0, 3), ("set", 1, 7), ("go", 4), ("set", 1, 8), REST)
        self.same(known_of(code)[4], ((2, 0),))
        # known on one way alone
        code = of(("test", 0, 2), ("set", 0, 7), REST)
        self.same(known_of(code)[2], ((1, 0), (2, 0)))
        # nothing is known behind a test of the register that it tests
        self.same(known_of(of(("test", 0, 2), REST))[2], ((1, 0), (2, 0)))

    def test_a_test_of_a_known_one(self):
        self.knows(of(("test", 1, 2), ("set", 2, 9)), ((1, 0), (2, 0)), None, ((1, 0), (2, 0)))
        self.knows(of(("set", 1, 3), ("test", 1, 3), ("set", 2, 9)), ((1, 0), (2, 0)), ((1, 3), (2, 0)), ((1, 3), (2, 0)),
                   ((1, 3), (2, 9)))
        # rows behind rows that aren't come to, a test among them
        self.knows(of(("test", 1, 4), ("set", 2, 9), ("test", 0, 4), REST, REST), ((1, 0), (2, 0)), None, None, None,
                   ((1, 0), (2, 0)), ((1, 0), (2, 0)))
        # rows that no way leads to at all
        self.knows(of(("go", 2), ("set", 1, 1)), ((1, 0), (2, 0)), None, ((1, 0), (2, 0)))
        # a test to the next row is one way, too
        self.knows(of(("test", 0, 1)), ((1, 0), (2, 0)), ((1, 0), (2, 0)))

    def test_what_growing_does_not_come_to_takes_nothing_away(self):
        # row 2 would change register 1, but register 2 stays 0, so it is never done
        code = of(("count", 3), ("test", 2, 4), ("set", 1, 5), REST, ("again", 1))
        self.same(known_of(code), (((1, 0), (2, 0)), ((1, 0), (2, 0)), None, None, ((1, 0), (2, 0)), ((1, 0), (2, 0))))
        # here each of two would change only by the other one
        code = of(("count", 3), ("test", 2, 4), ("set", 1, 5), ("copy", 2, 1), ("copy", 2, 1), ("again", 1))
        self.same(known_of(code)[1], ((1, 0), (2, 0)))
        self.same(folded(code), of(("count", 3), ("go", 4), ("set", 1, 5), ("copy", 2, 1), ("set", 2, 0), ("again", 1)))

    def test_loops(self):
        code = of(("set", 1, 3), ("count", 2), ("test", 1, 5), ("-", 1, 1, 2), ("set", 2, 0), ("again", 2))
        self.same(known_of(code)[2], ((1, 3), (2, 0)))
        # a register that changes from round to round
        code = of(("set", 1, 3), ("count", 2), ("+", 1, 1, 1), ("again", 2))
        self.knows(code, ((1, 0), (2, 0)), ((1, 3), (2, 0)), ((2, 0),), ((2, 0),), ((2, 0),))
        # in a loop of one round nothing leads back
        code = of(("set", 1, 3), ("count", 1), ("+", 1, 1, 1), ("again", 2))
        self.knows(code, ((1, 0), (2, 0)), ((1, 3), (2, 0)), ((1, 3), (2, 0)), ((1, 6), (2, 0)), ((1, 6), (2, 0)))
        # in the next round it is what this one made of it, here again the same
        code = of(("count", 6), ("set", 1, 4), ("copy", 2, 1), ("again", 1))
        self.knows(code, ((1, 0), (2, 0)), (), ((1, 4),), ((1, 4), (2, 4)), ((1, 4), (2, 4)))
        # the way back takes away what a test knew
        code = of(("count", 2), ("test", 1, 3), ("set", 2, 1), ("set", 1, 1), ("again", 1))
        self.knows(code, ((1, 0), (2, 0)), (), (), (), ((1, 1),), ((1, 1),))

    def test_all_ways_at_once(self):
        for seed in range(400):
            code = picked_code(Picks(seed), 25)
            self.same(known_of(code), grown(code))

    def test_what_is_known_is_so(self):
        for seed in range(150):
            code = picked_code(Picks(seed), 20)
            known = known_of(code)
            for worths in all_inputs(code):
                for at in range(min(200, len(trace(code, worths)))):
                    row, _, held, _ = stand(code, worths, at)
                    for one, worth in known[row]:
                        self.assertEqual(held[one], worth)


class Folded(Case):
    def becomes(self, rows, *wanted, **heads):
        self.same(folded(of(*rows, **heads)), of(*wanted, **heads))

    def test_copies_and_ops(self):
        self.becomes((("set", 1, 9), ("copy", 2, 1), ("+", 2, 2, 1), ("*", 1, 2, 2)),
                     ("set", 1, 9), ("set", 2, 9), ("set", 2, 18), ("set", 1, 68))
        self.becomes((("<", 1, 2, 2), ("=", 1, 2, 2), ("-", 1, 2, 1), ("copy", 0, 2)),
                     ("set", 1, 0), ("set", 1, 1), ("set", 1, 255), ("set", 0, 0))

    def test_what_is_not_known_stays(self):
        for row in (("copy", 1, 0), ("+", 1, 0, 2), ("*", 1, 2, 0), ("-", 1, 0, 0), ("test", 0, 1), ("test", 0, 2)):
            self.becomes((row, REST), row, REST)

    def test_other_rows_stay(self):
        rows = (("set", 1, 3), ("put", 0, 1, 1), ("get", 2, 0, 1), ("count", 2), REST, ("again", 4), ("go", 7), REST)
        self.becomes(rows, *rows)

    def test_a_test_becomes_a_go(self):
        self.becomes((("test", 1, 3), REST, REST), ("go", 3), REST, REST)
        # also where that is the next row
        self.becomes((("test", 1, 1),), ("go", 1))

    def test_a_test_becomes_a_rest(self):
        self.becomes((("set", 1, 255), ("test", 1, 4), REST, REST), ("set", 1, 255), REST, REST, REST)
        self.becomes((("set", 1, 1), ("test", 1, 2)), ("set", 1, 1), REST)

    def test_rows_that_growing_does_not_come_to_stay(self):
        self.becomes((("test", 1, 4), ("copy", 2, 1), ("+", 2, 1, 1), ("test", 1, 4), ("copy", 2, 1)),
                     ("go", 4), ("copy", 2, 1), ("+", 2, 1, 1), ("test", 1, 4), ("set", 2, 0))

    def test_a_count_of_one_and_of_more(self):
        rows = (("set", 1, 3), ("count", 1), ("+", 1, 1, 1), ("test", 1, 5), ("copy", 2, 1), ("again", 2))
        self.becomes(rows, ("set", 1, 3), ("count", 1), ("set", 1, 6), REST, ("set", 2, 6), ("again", 2))
        self.becomes(rows[:1] + (("count", 2),) + rows[2:], *rows[:1] + (("count", 2),) + rows[2:])

    def test_folded_twice(self):
        for seed in range(300):
            told = folded(picked_code(Picks(seed), 30))
            self.same(folded(told), told)

    def test_by_what_is_known(self):
        changed = 0
        for seed in range(300):
            code = picked_code(Picks(seed), 25)
            known, told = grown(code), folded(code)
            self.same(told[:4], code[:4])
            self.assertEqual(len(told[4]), len(code[4]))
            for at, (row, new) in enumerate(zip(code[4], told[4])):
                held = dict(known[at] or ())
                wanted = row
                if known[at] is not None and row[0] == "copy" and row[2] in held:
                    wanted = ("set", row[1], held[row[2]])
                if known[at] is not None and row[0] in OPS and row[2] in held and row[3] in held:
                    wanted = ("set", row[1], OPS[row[0]](held[row[2]], held[row[3]]))
                if known[at] is not None and row[0] == "test" and row[1] in held:
                    wanted = REST if held[row[1]] else ("go", row[2])
                self.same(new, wanted)
                changed += new != row
        self.assertGreater(changed, 200)

    def test_tells_what_it_told(self):
        for seed in range(250):
            code = picked_code(Picks(seed), 25)
            begun = repr(code)
            told = folded(code)
            self.assertIs(is_code(told), True)
            for worths in all_inputs(code):
                self.same(run(told, worths), run(code, worths))
                # by the same rows, one for one
                self.same(trace(told, worths), trace(code, worths))
            self.assertEqual(repr(code), begun)


class Refused(Case):
    def test_no_code(self):
        for thing in ANYTHING + unlikely(of(REST, ("go", 2))):
            self.refuses(NoCode, known_of, thing)
            self.refuses(NoCode, folded, thing)


if __name__ == "__main__":
    unittest.main()
