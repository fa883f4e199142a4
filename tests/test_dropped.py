import unittest

from pacebond.codes.codes import come_to, gives, is_code, loops_of, reads, ways_from
from pacebond.codes.made import made
from pacebond.codes.runs import run
from pacebond.errors import NoCode
from pacebond.passes.dropped import dead_rows, dropped
from tests.samples import ANYTHING, Case, Picks, all_inputs, picked_code, unlikely

END = ("end",)
REST = ("rest",)


def of(*rows, asks=((0, 2), (0, 1)), many=4, shown=2, arrays=(3,)):
    """A code that shows its first two registers and asks for these."""
    return (asks, many, shown, arrays, rows + (END,))


def is_dead(code, row):
    """Whether its register is read by no way behind a row ahead of being given again, way by way."""
    one = gives(code, row)
    if one is None:
        return False
    seen, left = set(), list(ways_from(code, row))
    while left:
        here = left.pop()
        if here in seen:
            continue
        seen.add(here)
        if one in reads(code, here) or (code[4][here] == END and one < code[2]):
            return False
        if gives(code, here) != one:
            left.extend(ways_from(code, here))
    return True


def may_go(code):
    """Each row, or count and again together, that may go out of a code by itself."""
    rows, come, loops = code[4], come_to(code), loops_of(code)
    found = [(count, again) for count, again in loops if again not in come or again == count + 1]
    in_pairs = [row for loop in loops for row in loop]
    for at, row in enumerate(rows):
        idle = row == REST or (row[0] in ("test", "go") and row[-1] == at + 1)
        if at not in in_pairs and (idle or at not in come or is_dead(code, at)):
            found.append((at,))
    return found


def taken_out(code, out):
    """The code without these rows."""
    stay = [at for at in range(len(code[4])) if at not in out]
    rows = []
    for at in stay:
        row = code[4][at]
        if row[0] in ("test", "go", "again"):
            row = row[:-1] + (len([one for one in stay if one < row[-1]]),)
        rows.append(row)
    return code[:4] + (tuple(rows),)


class Dropped(Case):
    def becomes(self, rows, *wanted, **heads):
        self.same(dropped(of(*rows, **heads)), of(*wanted, **heads))

    def stays(self, *rows, **heads):
        self.becomes(rows, *rows, **heads)

    def test_nothing_to_do(self):
        self.stays()
        self.stays(("set", 0, 1))
        self.stays(("test", 0, 2), ("set", 0, 1), ("set", 1, 1))
        self.stays(("count", 2), ("put", 0, 1, 1), ("again", 1))

    def test_rests(self):
        self.becomes((REST,))
        self.becomes((REST, ("set", 0, 1), REST, REST, ("set", 1, 1), REST), ("set", 0, 1), ("set", 1, 1))

    def test_rows_that_are_not_come_to(self):
        self.becomes((("go", 3), ("set", 0, 1), ("put", 0, 0, 1)))
        self.becomes((("test", 0, 3), ("set", 0, 1), ("go", 6), ("set", 1, 2), ("go", 6), ("set", 1, 7), ("put", 0, 1, 1)),
                     ("test", 0, 3), ("set", 0, 1), ("go", 4), ("set", 1, 2), ("put", 0, 1, 1))
        # a loop of these, with jumps in it
        self.becomes((("go", 5), ("count", 2), ("test", 0, 4), ("set", 0, 1), ("again", 2), ("set", 1, 1)), ("set", 1, 1))

    def test_an_empty_loop(self):
        self.becomes((("count", 6), ("again", 1)))
        self.becomes((("count", 1), ("again", 1), ("set", 0, 1)), ("set", 0, 1))
        self.becomes((("count", 6), ("count", 6), ("again", 2), ("again", 1)))
        self.becomes((("count", 6), REST, ("set", 3, 1), ("go", 4), ("again", 1)))

    def test_a_loop_whose_again_is_not_come_to(self):
        self.becomes((("count", 3), ("set", 0, 1), ("go", 4), ("again", 1)), ("set", 0, 1))
        self.becomes((("count", 3), ("test", 0, 5), ("put", 0, 1, 1), ("go", 6), ("again", 1), ("set", 0, 1), ("set", 1, 1)),
                     ("test", 0, 3), ("put", 0, 1, 1), ("go", 4), ("set", 0, 1), ("set", 1, 1))
        # the loop around it stays
        self.becomes((("count", 3), ("count", 2), ("put", 0, 0, 0), ("go", 5), ("again", 2), ("again", 1)),
                     ("count", 3), ("put", 0, 0, 0), ("again", 1))

    def test_a_loop_that_is_done_once_stays(self):
        self.stays(("count", 1), ("put", 0, 0, 0), ("again", 1))

    def test_tests_and_gos_to_the_next_row(self):
        self.becomes((("test", 0, 1),))
        self.becomes((("go", 1), ("set", 0, 1)), ("set", 0, 1))
        self.becomes((("test", 0, 3), ("test", 1, 3), ("go", 3), ("set", 0, 1)), ("set", 0, 1))
        # once what stands between is out
        self.becomes((("test", 0, 3), REST, REST, ("set", 0, 1)), ("set", 0, 1))
        self.becomes((("go", 3), ("set", 0, 1), ("set", 0, 1), ("set", 1, 1)), ("set", 1, 1))
        self.becomes((("test", 0, 2), ("set", 3, 1), ("set", 0, 1)), ("set", 0, 1))

    def test_registers_read_nowhere(self):
        for row in (("set", 2, 1), ("copy", 2, 0), ("copy", 2, 2), ("+", 2, 0, 1), ("*", 3, 0, 2), ("get", 2, 0, 1)):
            self.becomes((row,))
        self.stays(("put", 0, 1, 1))
        self.stays(("set", 2, 1), ("put", 0, 1, 2))
        self.stays(("set", 2, 1), ("put", 0, 2, 1))

    def test_given_again_ahead_of_being_read(self):
        self.becomes((("set", 0, 1), ("set", 0, 2)), ("set", 0, 2))
        self.becomes((("set", 2, 1), ("set", 2, 2), ("copy", 0, 2)), ("set", 2, 2), ("copy", 0, 2))
        # reading comes ahead of giving, also in one row
        self.stays(("set", 0, 1), ("+", 0, 0, 1))
        self.stays(("set", 0, 1), ("copy", 0, 0))
        self.stays(("set", 2, 1), ("get", 2, 0, 2), ("copy", 0, 2))

    def test_read_only_by_what_goes_out_itself(self):
        self.becomes((("set", 2, 1), ("copy", 3, 2), ("+", 2, 3, 3), ("set", 0, 1)), ("set", 0, 1))
        self.becomes((("set", 2, 1), ("test", 2, 2)))
        self.becomes((("set", 2, 1), ("go", 3), ("copy", 0, 2), ("set", 1, 1)), ("set", 1, 1))
        # but in a loop it is read by itself, and so is no dead one
        self.stays(("count", 2), ("+", 2, 2, 2), ("put", 0, 1, 1), ("again", 1))

    def test_read_on_one_way_alone(self):
        self.stays(("set", 2, 1), ("test", 0, 3), ("copy", 1, 2), ("put", 0, 0, 0))
        self.becomes((("set", 2, 1), ("test", 0, 4), ("set", 2, 3), ("copy", 1, 2), ("put", 0, 0, 0)),
                     ("test", 0, 3), ("set", 2, 3), ("copy", 1, 2), ("put", 0, 0, 0))
        # in the next round
        self.stays(("count", 2), ("put", 0, 2, 2), ("set", 2, 1), ("again", 1))
        self.becomes((("count", 1), ("put", 0, 2, 2), ("set", 2, 1), ("again", 1)), ("count", 1), ("put", 0, 2, 2), ("again", 1))

    def test_shown_ones_at_the_end(self):
        rows = (("set", 0, 1), ("set", 1, 1), ("set", 2, 1), ("set", 3, 1))
        for shown in range(5):
            self.becomes(rows, *rows[:shown], shown=shown)

    def test_again_and_again(self):
        chain = tuple([("copy", 3 - at % 2, 2 + at % 2) for at in range(58)])
        self.becomes((("set", 2, 1),) + chain)
        nest = (("count", 6), ("count", 6), ("set", 3, 0), ("test", 3, 5), REST, ("again", 2), ("go", 7), ("again", 1))
        self.becomes(nest + (("set", 0, 1),), ("set", 0, 1))

    def test_jumps_to_what_is_out(self):
        self.becomes((("test", 0, 2), ("set", 0, 1), REST, ("set", 2, 1), ("set", 1, 1)),
                     ("test", 0, 2), ("set", 0, 1), ("set", 1, 1))
        self.becomes((("test", 0, 2), ("set", 0, 1), REST, ("set", 2, 1)), ("test", 0, 2), ("set", 0, 1))
        self.becomes((("test", 0, 2), ("set", 0, 1), ("count", 2), ("again", 3), ("set", 1, 1)),
                     ("test", 0, 2), ("set", 0, 1), ("set", 1, 1))
        # an again whose row is out goes to the next one, which may be itself
        self.becomes((("count", 2), REST, ("put", 0, 1, 1), ("again", 1)), ("count", 2), ("put", 0, 1, 1), ("again", 1))
        self.becomes((REST, ("count", 2), ("count", 3), ("set", 3, 1), ("again", 3), ("put", 0, 1, 1), ("again", 2)),
                     ("count", 2), ("put", 0, 1, 1), ("again", 1))

    def test_heads_stay(self):
        for asks, many, shown, arrays in (((), 1, 0, ()), (((1, 2),), 16, 7, (6, 1))):
            self.becomes((REST,), asks=asks, many=many, shown=shown, arrays=arrays)

    def test_whatever_goes_first(self):
        for seed in range(150):
            picks = Picks(seed)
            code = picked_code(picks, 20)
            one = code
            while may_go(one):
                one = taken_out(one, picks.one(may_go(one)))
                self.assertIs(is_code(one), True)
            self.same(dropped(code), one)

    def test_tells_what_it_told(self):
        for seed in range(300):
            code = picked_code(Picks(seed), 30)
            told = dropped(code)
            self.assertIs(is_code(told), True)
            self.assertEqual(told[:4], code[:4])
            self.same(dropped(told), told)
            for worths in all_inputs(code):
                self.same(run(told, worths), run(code, worths))

    def test_of_a_made_code(self):
        # the if's test leads to the next row; the loop's leads out of it, and stays
        program = ((("x", 0, 3),), (), (("set", "w", 1), ("if", "x", (), ()), ("loop", 2, 0, ()), ("set", "w", 2)))
        told = dropped(made(program))
        self.same(told[4], (("count", 2), ("set", 2, 0), ("test", 2, 4), ("again", 1), ("set", 1, 2), END))

    def test_what_is_handed_in_stays(self):
        code = of(REST, ("set", 3, 1))
        dropped(code)
        self.same(code, of(REST, ("set", 3, 1)))


class Dead(Case):
    def test_rows(self):
        self.same(dead_rows(of(("set", 2, 1), ("set", 0, 1), ("copy", 3, 0), ("set", 0, 2), ("get", 3, 0, 1))), (0, 2, 4))
        self.same(dead_rows(of()), ())
        self.same(dead_rows(of(REST, ("go", 2), ("test", 0, 3), ("put", 0, 2, 2), ("count", 2), ("again", 5))), ())

    def test_not_again_and_again(self):
        self.same(dead_rows(of(("set", 2, 1), ("copy", 3, 2))), (1,))

    def test_rows_that_are_not_come_to(self):
        self.same(dead_rows(of(("go", 3), ("set", 2, 1), ("set", 0, 1))), (1,))
        # what isn't come to reads, too
        self.same(dead_rows(of(("go", 4), ("set", 2, 1), ("copy", 0, 2), ("set", 3, 3))), (3,))
        # but no way leads there from a row that is
        self.same(dead_rows(of(("set", 2, 1), ("go", 3), ("copy", 0, 2))), (0,))

    def test_loops(self):
        self.same(dead_rows(of(("count", 2), ("copy", 0, 2), ("set", 2, 1), ("again", 1))), ())
        self.same(dead_rows(of(("count", 1), ("copy", 0, 2), ("set", 2, 1), ("again", 1))), (2,))
        self.same(dead_rows(of(("count", 2), ("set", 2, 1), ("copy", 0, 2), ("again", 1))), ())
        self.same(dead_rows(of(("count", 2), ("set", 2, 1), ("copy", 0, 2), ("set", 2, 5), ("again", 1))), (3,))

    def test_way_by_way(self):
        for seed in range(200):
            code = picked_code(Picks(seed), 25)
            self.same(dead_rows(code), tuple([row for row in range(len(code[4])) if is_dead(code, row)]))


class Refused(Case):
    def test_no_code(self):
        for thing in ANYTHING + unlikely(of(REST, ("go", 2))):
            self.refuses(NoCode, dropped, thing)
            self.refuses(NoCode, dead_rows, thing)


if __name__ == "__main__":
    unittest.main()
