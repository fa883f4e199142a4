import itertools
import unittest

from pacebond.codes.codes import around, come_to, gives, is_code, loops_of, reads, ways_from
from pacebond.errors import NoCode, NoRow
from tests.samples import ANYTHING, FORTY, Case, unlikely, warped

END = ("end",)
REST = ("rest",)

# Each kind of row; the second loop stands within the first one, the third beside both.
WHOLE = (
    ((0, 9), (3, 3)), 4, 2, (5, 2),
    (
        ("count", 3),            # 0
        ("set", 2, 255),         # 1
        ("count", 2),            # 2
        ("get", 3, 0, 2),        # 3
        ("test", 0, 6),          # 4
        ("*", 2, 3, 1),          # 5
        ("again", 3),            # 6
        ("put", 1, 3, 0),        # 7
        ("again", 1),            # 8
        ("count", 1),            # 9
        ("again", 10),           # 10
        ("copy", 1, 0),          # 11
        ("go", 14),              # 12
        REST,                    # 13
        END,                     # 14
    ),
)


def of(*rows, many=3, arrays=(3, 6), asks=(), shown=0):
    return (asks, many, shown, arrays, rows + (END,))


def count(many=2):
    return ("count", many)


def are_well_looped(rows):
    """The document's words on loops and jumps, read set by set."""
    pairs = []
    for at, row in enumerate(rows):
        if row[0] == "again":
            if not (0 <= row[1] - 1 < at and rows[row[1] - 1][0] == "count"):
                return False
            pairs.append((row[1] - 1, at))
        if row[0] == "go" and not row[1] > at:
            return False
    counts = [at for at, row in enumerate(rows) if row[0] == "count"]
    if sorted([count for count, _ in pairs]) != counts:
        return False
    own = {pair: set(range(pair[0] + 1, pair[1] + 1)) for pair in pairs}
    whole = {pair: own[pair] | {pair[0]} for pair in pairs}
    inside = lambda one, other: whole[one] <= own[other] - {other[1]}
    for one, other in itertools.permutations(pairs, 2):
        if not (inside(one, other) or inside(other, one) or not whole[one] & own[other]):
            return False
    for one, other, third in itertools.permutations(pairs, 3):
        if inside(one, other) and inside(other, third):
            return False
    jumps = [(at, row[1]) for at, row in enumerate(rows) if row[0] == "go"]
    return all(at in own[pair] for at, to in jumps for pair in pairs if to in own[pair])


class Codes(Case):
    def good(self, *codes):
        for code in codes:
            self.assertIs(is_code(code), True, code)

    def bad(self, *things):
        for thing in things:
            self.assertIs(is_code(thing), False, thing)
            for call in (loops_of, come_to):
                self.refuses(NoCode, call, thing)
            for call in (around, ways_from, reads, gives):
                self.refuses(NoCode, call, thing, None)

    def good_row(self, *rows):
        self.good(*[of(row) for row in rows])

    def bad_row(self, *rows):
        self.bad(*[of(row) for row in rows])

    def test_whole(self):
        self.good(WHOLE, ((), 1, 0, (), (END,)))
        self.bad(WHOLE[:4], WHOLE + (0,))

    def test_asks(self):
        for many in range(4):
            self.good(of(asks=((0, 9),) * many, many=max(1, many)))
        self.bad(of(asks=((0, 9),) * 4, many=4))
        self.good(of(asks=((0, 255),)), of(asks=((255, 255),)), of(asks=((0, 0),)))
        self.bad(*[of(asks=(ask,)) for ask in (
            (1, 0), (0, 256), (-1, 0), (0,), (0, 1, 2), (False, 1), (0, True), ("x", 0, 9), (), 0, None, [0, 1])])

    def test_registers(self):
        self.good(*[of(many=many) for many in range(1, 17)])
        self.bad(*[of(many=many) for many in (0, 17, -1, True, None, "1", FORTY)])
        asks = ((0, 1),) * 3
        self.good(of(many=3, asks=asks), of(many=2, asks=asks[:2]), of(many=1))
        self.bad(of(many=2, asks=asks), of(many=1, asks=asks[:2]), of(many=0))

    def test_shown(self):
        self.good(*[of(many=2, shown=shown) for shown in (0, 1, 2)], of(many=16, shown=16))
        self.bad(*[of(many=2, shown=shown) for shown in (-1, 3, True, None, (0,))])

    def test_arrays(self):
        self.good(of(arrays=()), of(arrays=(1,)), of(arrays=(6, 1)), *[of(arrays=(2, size)) for size in range(1, 7)])
        self.bad(of(arrays=(1, 1, 1)), *[of(arrays=(2, size)) for size in (0, 7, -1, True, None, ("a", 4), (4,))])
        self.bad(of(arrays=4), of(arrays=[4]), of(arrays="4"))

    def test_sixty_rows(self):
        self.good(of(*[REST] * 59))
        self.bad(of(*[REST] * 60), WHOLE[:4] + ((),))
        self.good(of(*[("test", 0, 59)] * 59))

    def test_rows_at_their_edges(self):
        self.good_row(("set", 0, 0), ("set", 2, 255), ("copy", 0, 2), ("copy", 2, 0), ("get", 0, 0, 2), ("get", 2, 1, 0),
                      ("put", 0, 0, 2), ("put", 1, 2, 0), ("test", 0, 1), ("test", 2, 1), ("go", 1), REST)
        self.good_row(*[(word, *three) for word in "+-*<=" for three in ((0, 0, 2), (0, 2, 0), (2, 0, 0))])
        self.bad_row(("set", 3, 0), ("set", -1, 0), ("set", 0, 256), ("set", 0, -1), ("copy", 3, 0), ("copy", 0, 3),
                     ("get", 3, 0, 0), ("get", 0, 2, 0), ("get", 0, -1, 0), ("get", 0, 0, 3), ("put", 2, 0, 0),
                     ("put", -1, 0, 0), ("put", 0, 3, 0), ("put", 0, 0, 3), ("test", 3, 1), ("test", -1, 1), ("go", 2))
        self.bad_row(*[(word, *three) for word in "+-*<=" for three in ((0, 0, 3), (0, 3, 0), (3, 0, 0), (0, 0, -1))])
        self.bad(of(("get", 0, 0, 0), arrays=()), of(("put", 0, 0, 0), arrays=()), of(("get", 0, 1, 0), arrays=(4,)))

    def test_rows_of_another_length_or_word(self):
        for row in WHOLE[4]:
            self.bad_row(row + (0,), row[:-1], (row[0].upper(),) + row[1:], list(row), (row,), row[1:])
        self.bad_row((), 0, None, "end", "rest", (0,), ("at", 0, 0, 0), ("/", 0, 0, 0), ("jump", 1), ("", 0, 0), (("set",), 0, 0))

    def test_counts_and_agains(self):
        self.good(*[of(count(many), ("again", 1)) for many in range(1, 7)])
        self.bad(*[of(count(many), ("again", 1)) for many in (0, 7, -1, True, None, "2")])
        self.good(of(count(), REST, ("again", 1)), of(REST, count(), ("again", 2)))

    def test_end(self):
        self.bad(((), 1, 0, (), (REST,)), ((), 1, 0, (), (END, REST)), of(END), of(REST, END, REST), of(END, END))
        self.bad(((), 1, 0, (), (("go", 0),)))

    def test_jumps(self):
        for jump in (lambda n: ("go", n), lambda n: ("test", 0, n)):
            self.good(of(jump(1), REST), of(jump(2), REST), of(REST, jump(2)))
            self.bad(of(jump(0), REST), of(REST, jump(1)), of(REST, jump(0)), of(jump(3), REST), of(jump(-1)), of(jump(True)))
            self.bad(of(jump(None)), of(jump("1")), of(jump(FORTY)))

    def test_jumps_into_and_out_of_loops(self):
        for jump in (lambda n: ("go", n), lambda n: ("test", 0, n)):
            # into a loop: to its first row, a middle one, its again; to its count is not into it
            self.bad(*[of(jump(n), count(), REST, REST, ("again", 2)) for n in (2, 3, 4)])
            self.good(of(jump(1), count(), REST, REST, ("again", 2)), of(jump(5), count(), REST, REST, ("again", 2)))
            # within the same loop, out of it, to the row behind it
            self.good(*[of(count(), jump(n), REST, ("again", 1), REST) for n in (2, 3, 4, 5)])
            # from one loop into the next one
            self.bad(of(count(), jump(4), ("again", 1), count(), ("again", 4)))
            self.good(of(count(), jump(3), ("again", 1), count(), ("again", 4)))
            # from the outer one into the inner one, and from there out of both
            inner = lambda n, m: of(count(), jump(n), count(), jump(m), ("again", 3), REST, ("again", 1), REST)
            self.bad(inner(3, 4), inner(4, 4))
            self.good(inner(2, 4), inner(2, 5), inner(5, 6), inner(6, 7), inner(7, 8), inner(8, 8))

    def test_agains_of_no_count_or_of_anothers(self):
        self.bad(of(("again", 0)), of(("again", 1)), of(REST, ("again", 1)), of(count()), of(count(), REST))
        self.bad(of(count(), REST, ("again", 2)), of(count(), REST, ("again", 0)), of(REST, count(), ("again", 1)))
        self.bad(of(count(), ("again", 1), ("again", 1)), of(count(), count(), ("again", 1)), of(count(), count(), ("again", 2)))
        self.bad(of(("again", 2), count(), REST), of(REST, ("again", 3), count()), of(count(), ("again", 2), count()))
        self.bad(of(count(), count(), ("again", 1), ("again", 1)), of(count(), count(), ("again", 2), ("again", 2)))

    def test_loops_beside_within_and_across_one_another(self):
        self.good(of(count(), ("again", 1), count(), ("again", 3)))
        self.good(of(count(), count(), ("again", 2), ("again", 1)))
        self.good(of(count(), count(), ("again", 2), count(), ("again", 4), ("again", 1)))
        self.bad(of(count(), count(), ("again", 1), ("again", 2)))
        self.bad(of(count(), REST, count(), REST, ("again", 1), REST, ("again", 3)))
        self.bad(of(count(), count(), count(), ("again", 3), ("again", 2), ("again", 1)))
        self.bad(of(count(), REST, count(), ("again", 3), count(), count(), ("again", 6), ("again", 5), ("again", 1)))
        self.good(of(count(), count(), ("again", 2), ("again", 1), count(), count(), ("again", 6), ("again", 5)))

    def test_all_small_codes(self):
        kinds = [REST, count()] + [(word, n) for word in ("go", "again") for n in range(5)]
        for rows in itertools.product(kinds, repeat=4):
            self.assertIs(is_code(of(*rows)), are_well_looped(rows + (END,)), rows)

    def test_all_loops_of_small_codes(self):
        kinds = [count()] + [("again", n) for n in range(1, 5)]
        for rows in itertools.product(kinds, repeat=6):
            self.assertIs(is_code(of(*rows)), are_well_looped(rows + (END,)), rows)

    def test_of_anything(self):
        for thing in ANYTHING + warped(WHOLE):
            if self.truth(is_code(thing)):
                loops_of(thing)
            else:
                self.refuses(NoCode, loops_of, thing)
        self.bad(*unlikely(WHOLE))
        self.bad(*ANYTHING)

    def test_loops_of(self):
        self.same(loops_of(WHOLE), ((0, 8), (2, 6), (9, 10)))
        self.same(loops_of(of()), ())
        self.same(loops_of(of(count(), count(), ("again", 2), ("again", 1))), ((0, 3), (1, 2)))

    def test_around(self):
        wanted = [(), (0,), (0,), (0, 2), (0, 2), (0, 2), (0, 2), (0,), (0,), (), (9,), (), (), (), ()]
        for row, counts in enumerate(wanted):
            self.same(around(WHOLE, row), counts)

    def test_ways_from(self):
        wanted = [(1,), (2,), (3,), (4,), (5, 6), (6,), (3, 7), (8,), (1, 9), (10,), (11,), (12,), (14,), (14,), ()]
        for row, ways in enumerate(wanted):
            self.same(ways_from(WHOLE, row), ways)

    def test_ways_told_once(self):
        self.same(ways_from(of(("test", 0, 1)), 0), (1,))
        self.same(ways_from(of(("go", 1)), 0), (1,))
        self.same(ways_from(of(count(2), ("again", 1)), 1), (1, 2))
        self.same(ways_from(of(count(1), REST, ("again", 1)), 2), (3,))

    def test_come_to(self):
        self.same(come_to(WHOLE), (0, 1, 2, 3, 4, 5, 6, 7, 8, 9, 10, 11, 12, 14))
        self.same(come_to(of()), (0,))
        self.same(come_to(of(("go", 2), REST, REST)), (0, 2, 3))
        # what leads on from a row that is not come to is no way to come there
        self.same(come_to(of(("go", 4), ("test", 0, 3), REST, REST)), (0, 4))
        self.same(come_to(of(count(6), ("go", 4), REST, ("again", 1), REST)), (0, 1, 4, 5))
        self.same(come_to(of(("test", 0, 3), ("go", 4), REST, REST)), (0, 1, 3, 4))
        self.same(come_to(of(("test", 0, 3), REST, REST, REST)), (0, 1, 2, 3, 4))

    def test_reads_and_gives(self):
        wanted = [((), None), ((), 2), ((), None), ((2,), 3), ((0,), None), ((1, 3), 2), ((), None), ((0, 3), None),
                  ((), None), ((), None), ((), None), ((0,), 1), ((), None), ((), None), ((), None)]
        for row, (read, given) in enumerate(wanted):
            self.same(reads(WHOLE, row), read)
            self.same(gives(WHOLE, row), given)

    def test_reads_of_each_op(self):
        for word in "+-*<=":
            self.same(reads(of((word, 0, 2, 1)), 0), (1, 2))
            self.same(reads(of((word, 2, 1, 1)), 0), (1,))
            self.same(gives(of((word, 2, 1, 1)), 0), 2)
        self.same(reads(of(("+", 0, 8, 1), many=9), 0), (1, 8))
        self.same(reads(of(("put", 1, 8, 1), many=9), 0), (1, 8))
        self.same(reads(of(("put", 1, 2, 2)), 0), (2,))
        self.same(reads(of(("put", 0, 1, 2)), 0), (1, 2))
        self.same(reads(of(("get", 0, 1, 2)), 0), (2,))
        self.same(gives(of(("get", 0, 1, 2)), 0), 0)

    def test_rows_that_are_none(self):
        for thing in ANYTHING + [15, -15]:
            if type(thing) is int and 0 <= thing < 15:
                continue
            for call in (around, ways_from, reads, gives):
                refusal = self.refuses(NoRow, call, WHOLE, thing)
                self.assertIs(refusal.number, thing)
        for call in (around, ways_from, reads, gives):
            call(WHOLE, 14)
            self.refuses(NoCode, call, None, 99)


if __name__ == "__main__":
    unittest.main()
