import itertools
import unittest

from pacebond.codes.codes import come_to, ways_from
from pacebond.errors import NoCode, NoMachine, NoRow, NoSheet, TooWide
from pacebond.machine.walks import spots_of
from pacebond.sure.hits import sure_rows
from pacebond.sure.sheets import behind_row, hits_by, is_sheet, sheet_of
from tests.samples import ANYTHING, FORTY, Case, Picks, paths, picked_code, put_at, unlikely, warped

END = ("end",)
REST = ("rest",)
MACHINE = (3, 4, 1)


def of(*rows, asks=(), many=2, arrays=()):
    return (asks, many, 0, arrays, rows + (END,))


TEN = of(*[REST] * 9)

# Row 4 is come to from rows 3 and 0, row 6 by none.
CODE = of(
    ("test", 0, 4),      # 0
    REST,                # 1
    REST,                # 2
    REST,                # 3
    REST,                # 4
    ("go", 7),           # 5
    REST,                # 6
    REST)                # 7

LOOP = of(
    ("count", 3),        # 0
    REST,                # 1
    REST,                # 2
    ("again", 1),        # 3
    ("test", 0, 6),      # 4
    REST)                # 5


class Behind(Case):
    def behind(self, row, lines, wanted, machine=MACHINE):
        self.same(behind_row(TEN, machine, row, lines), wanted)

    def test_its_own_line(self):
        for row in range(10):
            self.behind(row, (), ((row // 2, 0),))
            for age in range(4):
                self.behind(row, ((row // 2, age),), ((row // 2, 0),))

    def test_where_its_line_stands_there(self):
        # the younger ones are one older, those as old or older stay
        for age, wanted in (
            (0, ((0, 0), (1, 0), (2, 1), (3, 2), (4, 3))), (1, ((0, 1), (1, 0), (2, 1), (3, 2), (4, 3))),
            (2, ((0, 1), (1, 0), (2, 2), (3, 2), (4, 3))), (3, ((0, 1), (1, 0), (2, 2), (3, 3), (4, 3))),
        ):
            self.behind(2, ((0, 0), (1, age), (2, 1), (3, 2), (4, 3)), wanted)

    def test_where_its_line_does_not_stand_there(self):
        self.behind(2, ((0, 0), (2, 1)), ((0, 2), (1, 0), (2, 3)))
        self.behind(2, ((0, 0), (2, 1), (3, 2), (4, 3)), ((0, 2), (1, 0), (2, 3)))
        self.behind(9, ((0, 1), (2, 0)), ((0, 3), (2, 2), (4, 0)))

    def test_what_falls_out(self):
        for size, wanted in ((1, ((1, 0),)), (2, ((1, 0),)), (3, ((0, 2), (1, 0))), (4, ((0, 2), (1, 0)))):
            self.behind(3, ((0, 0),), wanted, (9, size, 1))
        self.behind(3, ((0, 1),), ((1, 0),), (9, 3, 1))
        self.behind(3, ((0, 1),), ((0, 3), (1, 0)), (9, 4, 1))
        # none falls out where its line stands there: what is younger than another one is not the oldest
        self.behind(3, ((0, 0), (1, 1)), ((0, 1), (1, 0)), (9, 2, 1))
        self.behind(3, ((0, 0), (1, 0)), ((0, 0), (1, 0)), (9, 1, 1))

    def test_a_machine_of_one_line(self):
        self.behind(4, ((0, 0), (1, 0), (4, 0)), ((2, 0),), (1, 1, 1))
        self.behind(4, ((0, 0), (2, 0), (4, 0)), ((0, 0), (2, 0), (4, 0)), (1, 1, 1))

    def test_rising_whatever_line_is_its_own(self):
        self.behind(8, ((0, 0), (3, 1)), ((0, 2), (3, 3), (4, 0)))
        self.behind(0, ((1, 0), (4, 1)), ((0, 0), (1, 2), (4, 3)))


class Full(Case):
    def test_of_a_test(self):
        self.same(sheet_of(CODE, (3, 2, 1)), (
            (), ((0, 0),), ((0, 0),), ((1, 0),), (), ((2, 0),), None, ((2, 0),), ((3, 0),)))
        self.same(sheet_of(CODE, MACHINE), (
            (), ((0, 0),), ((0, 0),), ((0, 2), (1, 0)), ((0, 2),), ((2, 0),), None, ((2, 0),), ((2, 2), (3, 0))))
        self.same(sheet_of(of(REST), (1, 1, 1)), ((), ((0, 0),)))
        self.same(sheet_of(of(), MACHINE), ((),))

    def test_of_a_loop(self):
        # to row 1 from row 0, behind which line 0 is young, and from row 3, behind which it is older
        self.same(sheet_of(LOOP, MACHINE), (
            (), ((0, 2),), ((0, 0),), ((0, 2), (1, 0)), ((0, 2), (1, 0)), ((1, 2), (2, 0)), ((1, 2), (2, 0))))
        self.same(sheet_of(LOOP, (3, 2, 1)), ((), (), ((0, 0),), ((1, 0),), ((1, 0),), ((2, 0),), ((2, 0),)))
        # ahead of row 2 line 0 would be two older round for round
        code = of(REST, ("count", 3), REST, ("again", 2))
        self.same(sheet_of(code, MACHINE), ((), ((0, 0),), (), ((1, 0),), ((1, 0),)))

    def test_none_is_of_just_the_rows_that_are_not_come_to(self):
        for seed in range(100):
            picks = Picks(seed)
            code = picked_code(picks)
            machine = (1, 1 + picks.below(4), 1)
            told = sheet_of(code, machine)
            self.assertEqual(tuple([row for row, lines in enumerate(told) if lines is not None]), come_to(code))
            self.assertIs(is_sheet(code, machine, told), True)

    def test_what_it_tells_is_near_and_no_older_at_all_spots(self):
        hits = 0
        for seed in range(100):
            picks = Picks(seed)
            code = picked_code(picks)
            machine = (1 + picks.below(4), 1 + picks.below(4), 1)
            try:
                spots = spots_of(code, machine)
            except TooWide:
                continue
            sheet = sheet_of(code, machine)
            for row, _, (near, _, _) in spots:
                for line, age in sheet[row]:
                    self.assertIn(line, near[:age + 1])
                    hits += 1
            self.assertLessEqual(set(hits_by(code, machine, sheet)), set(sure_rows(code, machine)))
        self.assertGreater(hits, 500)

    def test_no_sheet_that_holds_tells_more(self):
        codes = (of(("test", 0, 2), REST, REST), of(("count", 2), REST, ("again", 1)), of(REST, ("count", 2), ("again", 2)),
                 of(("go", 2), REST, REST), of(("test", 0, 3), ("test", 0, 3), REST), of(REST, REST, REST))
        for code in codes:
            for size in (1, 2):
                full = sheet_of(code, (1, size, 1))
                rows = [None] + [tuple([(line, age) for line, age in enumerate(ages) if age is not None])
                                 for ages in itertools.product([None] + list(range(size)), repeat=2)]
                held = [sheet for sheet in itertools.product([()], rows, rows, rows) if is_sheet(code, (1, size, 1), sheet)]
                self.assertIn(full, held)
                for sheet in held:
                    for row in come_to(code):
                        for line, age in sheet[row]:
                            self.assertLessEqual(dict(full[row])[line], age)


def holds(code, machine, thing):
    """Whether it is a sheet that holds, row by row of what the document says."""
    lines, size = (len(code[4]) + 1) // 2, machine[1]
    if type(thing) is not tuple or len(thing) != len(code[4]):
        return False
    for one in thing:
        if one is None:
            continue
        if type(one) is not tuple or not all([type(pair) is tuple and len(pair) == 2 for pair in one]):
            return False
        if not all([type(line) is int and 0 <= line < lines and type(age) is int and 0 <= age < size for line, age in one]):
            return False
        if list(one) != sorted(one) or len({line for line, _ in one}) != len(one):
            return False
    if thing[0] != ():
        return False
    for row, one in enumerate(thing):
        if one is not None:
            behind = dict(behind_row(code, machine, row, one))
            for to in ways_from(code, row):
                if thing[to] is None or not all([line in behind and behind[line] <= age for line, age in thing[to]]):
                    return False
    return True


class Sheets(Case):
    def both(self, thing, code=CODE, machine=MACHINE):
        shown = self.truth(is_sheet(code, machine, thing))
        self.assertEqual(shown, holds(code, machine, thing), thing)
        return shown

    def test_sheets_that_say_less(self):
        full = sheet_of(CODE, MACHINE)
        none = tuple([() for _ in full])
        self.assertTrue(self.both(none))
        self.assertTrue(self.both(none[:6] + (None,) + none[7:]))
        for row in range(9):
            if row != 6:
                # where a row says less, only what hangs on it may be too much
                self.both(put_at(full, (row,), ()))
        self.assertTrue(self.both(put_at(full, (8,), ())))
        self.assertTrue(self.both(put_at(full, (8,), ((3, 1),))))
        self.assertTrue(self.both(put_at(full, (8,), ((3, 3),))))
        self.assertTrue(self.both(put_at(full, (8,), ((2, 2),))))
        self.assertTrue(self.both(put_at(full, (8,), ((2, 3), (3, 0)))))
        self.assertTrue(self.both(put_at(put_at(full, (7,), ()), (8,), ((3, 0),))))

    def test_a_line_too_young_or_not_there(self):
        full = sheet_of(CODE, MACHINE)
        for lines in (((2, 1), (3, 0)), ((2, 0), (3, 0)), ((1, 3), (2, 2), (3, 0)), ((2, 2), (3, 0), (4, 3))):
            self.assertFalse(self.both(put_at(full, (8,), lines)))
        self.assertFalse(self.both(put_at(full, (4,), ((0, 1),))))
        self.assertFalse(self.both(put_at(full, (4,), ((0, 2), (1, 3)))))
        self.assertFalse(self.both(put_at(full, (7,), ())))
        for path in paths(full):
            if len(path) == 3 and path[2] == 1:
                self.both(put_at(full, path, 0))
                self.both(put_at(full, path, 3))
                self.assertFalse(self.both(put_at(full, path, 4)))
                self.assertFalse(self.both(put_at(full, path, -1)))

    def test_a_line_twice(self):
        full = sheet_of(CODE, MACHINE)
        for lines in (((3, 0), (3, 0)), ((3, 0), (3, 1)), ((2, 2), (2, 3), (3, 0))):
            self.assertFalse(self.both(put_at(full, (8,), lines)))

    def test_out_of_order(self):
        self.assertFalse(self.both(put_at(sheet_of(CODE, MACHINE), (8,), ((3, 0), (2, 2)))))

    def test_none_where_a_row_is_come_to(self):
        full = sheet_of(CODE, MACHINE)
        for row in range(9):
            if row != 6:
                self.assertFalse(self.both(put_at(full, (row,), None)))

    def test_a_row_that_is_not_come_to(self):
        # it may have a sheet as long as that leads to nothing that isn't behind it
        full = sheet_of(CODE, MACHINE)
        self.assertFalse(self.both(put_at(full, (6,), ())))
        self.assertFalse(self.both(put_at(full, (6,), ((2, 0),))))
        self.assertTrue(self.both(put_at(full, (6,), ((2, 0), (3, 0)))))
        self.assertTrue(self.both(put_at(full, (6,), ((0, 3), (2, 0), (3, 0)))))
        self.assertFalse(self.both(put_at(full, (6,), ((2, 0), (3, 1)))))
        self.assertTrue(self.both(put_at(put_at(put_at(full, (7,), ()), (8,), ((3, 0),)), (6,), ())))

    def test_row_0(self):
        full = sheet_of(CODE, MACHINE)
        for lines in (((0, 0),), ((0, 3),), ((4, 3),), None, [], ((),)):
            self.assertFalse(self.both((lines,) + full[1:]))
        self.assertTrue(self.both(((),), of()))
        self.assertFalse(self.both((((0, 0),),), of()))
        self.assertFalse(self.both((None,), of()))

    def test_how_many_rows(self):
        full = sheet_of(CODE, MACHINE)
        for thing in (full[:-1], full + ((),), full + (None,), full[1:], (), full[:1]):
            self.assertFalse(self.both(thing))

    def test_of_another_machine(self):
        full = sheet_of(CODE, MACHINE)
        self.assertFalse(self.both(full, machine=(3, 2, 1)))
        self.assertTrue(self.both(sheet_of(CODE, (3, 2, 1)), machine=(20, 2, 4)))
        self.assertTrue(self.both(sheet_of(CODE, (3, 2, 1))))

    def test_of_anything(self):
        full = sheet_of(CODE, MACHINE)
        for thing in ANYTHING + unlikely(full):
            self.assertFalse(self.both(thing))
            self.refuses(NoSheet, hits_by, CODE, MACHINE, thing)
        for thing in warped(full):
            self.both(thing)
        for thing in ANYTHING:
            self.both(thing, of())

    def test_of_sheets_a_little_otherwise(self):
        found = {True: 0, False: 0}
        for seed in range(200):
            picks = Picks(seed)
            code = picked_code(picks, 8)
            machine = (1, 1 + picks.below(4), 1)
            sheet = sheet_of(code, machine)
            for _ in range(10):
                row = picks.below(len(sheet))
                if sheet[row] is None or picks.below(9) == 0:
                    sheet = put_at(sheet, (row,), ())
                elif sheet[row]:
                    at = picks.below(len(sheet[row]))
                    line, age = sheet[row][at]
                    other = ((line, min(machine[1] - 1, age + 1)),) if picks.below(2) else ()
                    sheet = put_at(sheet, (row,), sheet[row][:at] + other + sheet[row][at + 1:])
                found[self.both(sheet, code, machine)] += 1
        self.assertGreater(min(found.values()), 100)


class Hits(Case):
    def test_of_the_full_sheet(self):
        self.same(hits_by(CODE, MACHINE, sheet_of(CODE, MACHINE)), (1, 3, 5))
        self.same(hits_by(TEN, MACHINE, sheet_of(TEN, MACHINE)), (1, 3, 5, 7, 9))
        self.same(hits_by(of(), MACHINE, ((),)), ())

    def test_of_a_lesser_one(self):
        none = tuple([() for _ in range(9)])
        self.same(hits_by(CODE, MACHINE, none), ())
        self.same(hits_by(CODE, MACHINE, none[:3] + (((1, 3),),) + none[4:]), (3,))
        self.same(hits_by(CODE, MACHINE, none[:3] + (((1, 0),),) + none[4:5] + (((2, 2),), None) + none[7:]), (3, 5))

    def test_of_a_row_that_is_not_come_to(self):
        full = put_at(sheet_of(CODE, MACHINE), (6,), ((2, 0), (3, 0)))
        self.same(hits_by(CODE, MACHINE, full), (1, 3, 5, 6))

    def test_what_is_sure_and_in_no_sheet(self):
        # row 0's miss brings line 1, too
        code = of(REST, REST, REST)
        self.same(hits_by(code, (3, 2, 1), sheet_of(code, (3, 2, 1))), (1, 3))
        self.same(sure_rows(code, (3, 2, 1)), (1, 2, 3))

    def test_loops(self):
        self.same(hits_by(LOOP, MACHINE, sheet_of(LOOP, MACHINE)), (1, 3, 5))
        # row 1 is come to from row 3, too, and of two lines near 0 may be gone by then
        self.same(hits_by(LOOP, (3, 2, 1), sheet_of(LOOP, (3, 2, 1))), (3, 5))


class Refused(Case):
    def test_in_order(self):
        for thing in ANYTHING:
            for call, more in ((behind_row, (None, None)), (sheet_of, ()), (is_sheet, (None,)), (hits_by, (None,))):
                self.refuses(NoCode, call, thing, None, *more)
                if thing != (1, 2, 3):
                    self.refuses(NoMachine, call, CODE, thing, *more)
            if not (type(thing) is int and 0 <= thing < 9):
                self.same(self.refuses(NoRow, behind_row, CODE, MACHINE, thing, None).number, thing)

    def test_lines(self):
        for thing in ANYTHING + unlikely(((0, 0), (1, 1))):
            if thing != ():
                self.refuses(NoSheet, behind_row, CODE, MACHINE, 0, thing)
        for lines in (
            ((5, 0),), ((-1, 0),), ((0, 4),), ((0, -1),), ((0, 0), (0, 0)), ((0, 0), (0, 1)), ((1, 0), (0, 0)), ((0,),),
            ((0, 0, 0),), (0, 0), ((FORTY, 0),), ((0, FORTY),), ((0, None),), ([0, 0],), [(0, 0)], {0: 0}, None,
        ):
            self.refuses(NoSheet, behind_row, CODE, MACHINE, 3, lines)
        self.same(behind_row(CODE, MACHINE, 8, ((4, 3),)), ((4, 0),))
        self.refuses(NoSheet, behind_row, CODE, (3, 3, 4), 8, ((4, 3),))

    def test_never_too_wide(self):
        wide = of(("count", 6), ("count", 6), *[REST] * 40, ("again", 2), ("again", 1))
        self.refuses(TooWide, sure_rows, wide, MACHINE)
        self.assertIs(is_sheet(wide, MACHINE, sheet_of(wide, MACHINE)), True)


if __name__ == "__main__":
    unittest.main()
