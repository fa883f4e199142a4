import unittest

from pacebond.codes.codes import is_code, loops_of
from pacebond.codes.runs import run, trace
from pacebond.errors import NoCode, NoPass, TooLong
from pacebond.passes.dropped import dropped
from pacebond.passes.turned import turned
from tests.samples import ANYTHING, Case, Picks, all_inputs, picked_code, unlikely

END = ("end",)
REST = ("rest",)


def of(*rows, asks=((0, 2), (0, 1)), many=3, shown=3, arrays=(3,)):
    return (asks, many, shown, arrays, rows + (END,))


def labelled(code, count, again):
    """(label, row) of each row of the turned code, labels being of the copy's rows and of those that stood."""
    rows = code[4]
    stood = [(("stood", at), row) for at, row in enumerate(rows)]
    copy = [(("copy", at), row) for at, row in enumerate(rows)][count + 1: again]
    loop = stood[count + 1: again + 1] if rows[count][1] > 1 else []
    if loop:
        loop = [(("stood", count), ("count", rows[count][1] - 1))] + loop
    return stood[:count] + copy + loop + stood[again + 1:]


def by_labels(code, count, again):
    """The turned code, each jump and again led to where what it goes to stands now."""
    told = labelled(code, count, again)
    at = {label: place for place, (label, _) in enumerate(told)}
    at["start"], at["behind"] = count, count + again - count - 1
    rows = []
    for (kind, _), row in told:
        if row[0] in ("test", "go", "again"):
            to = ("stood", row[-1])
            if row[-1] == count:
                to = "start"
            if kind == "copy" and count < row[-1] <= again:
                to = "behind" if row[-1] == again else ("copy", row[-1])
            row = row[:-1] + (at[to],)
        rows.append(row)
    return code[:4] + (tuple(rows),)


class Turned(Case):
    def becomes(self, row, rows, *wanted):
        self.same(turned(of(*rows), row), of(*wanted))

    def test_a_count_of_two(self):
        self.becomes(1, (REST, ("count", 2), ("set", 0, 1), ("set", 1, 2), ("again", 2), REST),
                     REST, ("set", 0, 1), ("set", 1, 2), ("count", 1), ("set", 0, 1), ("set", 1, 2), ("again", 4), REST)

    def test_a_count_of_six(self):
        self.becomes(0, (("count", 6), ("put", 0, 1, 1), ("again", 1)),
                     ("put", 0, 1, 1), ("count", 5), ("put", 0, 1, 1), ("again", 2))

    def test_a_count_of_one(self):
        self.becomes(1, (REST, ("count", 1), ("set", 0, 1), ("set", 1, 2), ("again", 2), REST),
                     REST, ("set", 0, 1), ("set", 1, 2), REST)

    def test_no_rows_between(self):
        self.becomes(1, (REST, ("count", 3), ("again", 2), REST), REST, ("count", 2), ("again", 2), REST)
        self.becomes(1, (REST, ("count", 1), ("again", 2), REST), REST, REST)
        self.becomes(0, (("count", 1), ("again", 1)))
        # a jump to it goes to what stands there then
        self.becomes(2, (("test", 0, 2), REST, ("count", 3), ("again", 3), REST),
                     ("test", 0, 2), REST, ("count", 2), ("again", 3), REST)
        self.becomes(2, (("test", 0, 2), REST, ("count", 1), ("again", 3), ("set", 0, 1)),
                     ("test", 0, 2), REST, ("set", 0, 1))

    def test_jumps_to_the_count(self):
        self.becomes(2, (("test", 0, 2), REST, ("count", 2), ("set", 0, 1), ("again", 3)),
                     ("test", 0, 2), REST, ("set", 0, 1), ("count", 1), ("set", 0, 1), ("again", 4))
        self.becomes(2, (("go", 2), REST, ("count", 1), ("set", 0, 1), ("again", 3)), ("go", 2), REST, ("set", 0, 1))
        self.becomes(1, (("test", 0, 1), ("count", 2), ("set", 0, 1), ("again", 2)),
                     ("test", 0, 1), ("set", 0, 1), ("count", 1), ("set", 0, 1), ("again", 3))

    def test_jumps_within_it(self):
        self.becomes(0, (("count", 2), ("test", 0, 3), REST, ("set", 0, 1), ("again", 1)),
                     ("test", 0, 2), REST, ("set", 0, 1), ("count", 1), ("test", 0, 6), REST, ("set", 0, 1), ("again", 4))

    def test_jumps_to_its_again(self):
        self.becomes(0, (("count", 2), ("test", 0, 4), ("go", 4), REST, ("again", 1)),
                     ("test", 0, 3), ("go", 3), REST, ("count", 1), ("test", 0, 7), ("go", 7), REST, ("again", 4))
        # of one round: behind the copy stands what stood behind the again
        self.becomes(0, (("count", 1), ("test", 0, 3), REST, ("again", 1), ("set", 0, 1)),
                     ("test", 0, 2), REST, ("set", 0, 1))

    def test_jumps_out_of_it_and_over_it(self):
        self.becomes(1, (("test", 0, 6), ("count", 2), ("test", 0, 5), REST, ("again", 2), ("set", 0, 1)),
                     ("test", 0, 8), ("test", 0, 7), REST, ("count", 1), ("test", 0, 7), REST, ("again", 4), ("set", 0, 1))
        self.becomes(1, (("test", 0, 6), ("count", 1), ("test", 0, 5), REST, ("again", 2), ("set", 0, 1)),
                     ("test", 0, 4), ("test", 0, 3), REST, ("set", 0, 1))

    def test_jumps_ahead_of_it_and_behind_it(self):
        self.becomes(2, (("test", 0, 2), ("go", 2), ("count", 2), REST, ("again", 3), ("test", 0, 7), REST),
                     ("test", 0, 2), ("go", 2), REST, ("count", 1), REST, ("again", 4), ("test", 0, 8), REST)
        self.becomes(3, (("test", 0, 2), REST, REST, ("count", 1), ("again", 4), ("test", 0, 7), REST),
                     ("test", 0, 2), REST, REST, ("test", 0, 5), REST)

    NEST = (("count", 3), ("count", 2), ("set", 0, 1), ("again", 2), ("again", 1))

    def test_a_loop_within_it(self):
        self.becomes(0, self.NEST, ("count", 2), ("set", 0, 1), ("again", 1),
                     ("count", 2), ("count", 2), ("set", 0, 1), ("again", 5), ("again", 4))

    def test_a_loop_around_it(self):
        # the again of the loop around goes to the copy, which stands behind its count now
        self.becomes(1, self.NEST, ("count", 3), ("set", 0, 1), ("count", 1), ("set", 0, 1), ("again", 3), ("again", 1))
        self.becomes(1, (("count", 3), ("count", 1), ("set", 0, 1), ("again", 2), ("again", 1)),
                     ("count", 3), ("set", 0, 1), ("again", 1))
        self.becomes(1, (("count", 3), ("count", 1), ("again", 2), ("again", 1)), ("count", 3), ("again", 1))
        self.becomes(2, (("count", 3), REST, ("count", 2), ("set", 0, 1), ("test", 1, 6), ("again", 3), ("again", 1)),
                     ("count", 3), REST, ("set", 0, 1), ("test", 1, 8), ("count", 1), ("set", 0, 1), ("test", 1, 8),
                     ("again", 5), ("again", 1))

    def test_jumps_from_the_loop_within_to_the_again_and_out(self):
        self.becomes(0, (("count", 2), ("count", 3), ("test", 0, 5), ("test", 1, 6), ("again", 2), ("again", 1), REST),
                     ("count", 3), ("test", 0, 4), ("test", 1, 10), ("again", 1),
                     ("count", 1), ("count", 3), ("test", 0, 9), ("test", 1, 10), ("again", 6), ("again", 5), REST)

    def test_rows_that_are_not_come_to(self):
        self.becomes(1, (("go", 4), ("count", 2), REST, ("again", 2)),
                     ("go", 5), REST, ("count", 1), REST, ("again", 3))

    def test_till_the_loop_is_gone(self):
        code = of(("set", 0, 1), ("count", 6), ("+", 0, 0, 0), ("again", 2), ("set", 1, 1))
        told = run(code, (0, 0))
        for left in range(5, 0, -1):
            code = turned(code, 6 - left)
            self.same(code[4][7 - left], ("count", left))
            self.same(run(code, (0, 0)), told)
        self.same(turned(code, 6), of(("set", 0, 1), *[("+", 0, 0, 0)] * 6, ("set", 1, 1)))
        self.refuses(NoPass, turned, turned(code, 6), 6)

    def test_heads_stay(self):
        heads = {"asks": ((1, 9),), "many": 9, "shown": 3, "arrays": (5, 1)}
        self.same(turned(of(("count", 1), REST, ("again", 1), **heads), 0), of(REST, **heads))

    def test_by_labels(self):
        found = 0
        for seed in range(400):
            code = picked_code(Picks(seed), 22)
            for count, again in loops_of(code):
                wanted = by_labels(code, count, again)
                found += 1
                if len(wanted[4]) > 60:
                    self.refuses(TooLong, turned, code, count)
                else:
                    self.same(turned(code, count), wanted)
        self.assertGreater(found, 400)

    def test_tells_what_it_told_by_the_same_rows(self):
        found = 0
        for seed in range(250):
            code = picked_code(Picks(seed), 22)
            begun = repr(code)
            for count, again in loops_of(code):
                told = turned(code, count)
                self.assertIs(is_code(told), True)
                origin = [label[1] for label, _ in labelled(code, count, again)]
                for worths in all_inputs(code):
                    self.same(run(told, worths), run(code, worths))
                    came = [origin[row] for row in trace(told, worths)]
                    self.assertEqual([row for row in came if row not in (count, again)],
                                     [row for row in trace(code, worths) if row not in (count, again)])
                    found += came != list(trace(code, worths))
            self.assertEqual(repr(code), begun)
        self.assertGreater(found, 200)

    def test_turned_away(self):
        for seed in range(60):
            code = picked_code(Picks(seed), 8)
            told, left = code, loops_of(code)
            while left:
                try:
                    told = turned(told, left[-1][0])
                except TooLong:
                    break
                left = loops_of(told)
            for worths in all_inputs(code):
                self.same(run(dropped(told), worths), run(code, worths))


class Refused(Case):
    def test_rows_that_are_no_count(self):
        code = of(("count", 2), ("test", 0, 3), REST, ("again", 1), ("go", 6), ("set", 0, 1))
        for row in range(7):
            if row:
                self.refuses(NoPass, turned, code, row)
        for thing in ANYTHING + [7, 8]:
            if not (type(thing) is int and thing == 0):
                self.refuses(NoPass, turned, code, thing)

    def test_a_truth_is_no_row(self):
        self.refuses(NoPass, turned, of(("count", 2), ("again", 1)), False)
        self.refuses(NoPass, turned, of(REST, ("count", 2), ("again", 2)), True)

    def test_just_sixty_rows_and_one_more(self):
        for more in (0, 1):
            code = of(("count", 6), *[("set", 0, 1)] * 20, ("again", 1), *[REST] * (17 + more))
            if more:
                self.assertEqual(len(code[4]) + 20, 61)
                self.refuses(TooLong, turned, code, 0)
            else:
                told = turned(code, 0)
                self.assertEqual(len(told[4]), 60)
                self.assertIs(is_code(told), True)
        # of one round there are fewer rows than there were
        self.same(len(turned(of(("count", 1), *[REST] * 57, ("again", 1)), 0)[4]), 58)

    def test_no_pass_ahead_of_too_long(self):
        code = of(("count", 6), *[("set", 0, 1)] * 57, ("again", 1))
        self.assertEqual(len(code[4]), 60)
        self.refuses(TooLong, turned, code, 0)
        for thing in (1, 58, 59, 60, -1, None, False, "0", (0,)):
            self.refuses(NoPass, turned, code, thing)

    def test_no_code(self):
        for thing in ANYTHING + unlikely(of(("count", 2), ("again", 1))):
            self.refuses(NoCode, turned, thing, None)


if __name__ == "__main__":
    unittest.main()
