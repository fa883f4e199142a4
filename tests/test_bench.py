import unittest

from pacebond.bench.bench import Bench
from pacebond.bounds.heights import heights_of
from pacebond.bounds.longest import bound_of
from pacebond.codes.codes import is_code
from pacebond.errors import NoCode, NoDeed, NoMachine, NoMost, NoRow, PaceError, TooWide, WalkError
from pacebond.machine.steps import steps_from
from pacebond.machine.walks import spots_of
from tests.samples import ANYTHING, Case, Picks, picked_code, picked_row, unlikely, well_led

END = ("end",)
REST = ("rest",)
MACHINE = (3, 1, 1)


def of(*rows, asks=((0, 1),), many=3, arrays=(6,)):
    return (asks, many, 0, arrays, rows + (END,))


# Row 4 is come to by both ways, rows 1 to 3 by one, row 6 by none.
CODE = of(
    ("test", 0, 4),      # 0
    ("*", 1, 0, 0),      # 1
    ("+", 1, 1, 1),      # 2
    REST,                # 3
    ("set", 2, 1),       # 4
    ("go", 7),           # 5
    REST)                # 6, end behind it

LOOP = of(REST, ("count", 3), REST, ("again", 2), REST, REST)


def changed(code, row, new):
    return code[:4] + (code[4][:row] + (new,) + code[4][row + 1:],)


def anew(code, machine, row, new):
    """How many spots of the changed code are judged anew, spot by spot."""
    lost = {}

    def is_lost(spot):
        if spot not in lost:
            behind = [is_lost(one[4]) for one in steps_from(code, machine, spot) if one[4] is not None]
            lost[spot] = spot[0] == row or any(behind)
        return lost[spot]

    kept = {spot for spot in spots_of(code, machine, most=5000) if not is_lost(spot)}
    return len([1 for spot in spots_of(changed(code, row, new), machine, most=5000) if spot not in kept])


class Benches(Case):
    def stands(self, bench, code, judged=None, machine=MACHINE, most=1000):
        """All that a bench tells is told of this code."""
        self.same(bench.code(), code)
        self.same(bench.machine(), machine)
        self.same(bench.bound(), bound_of(code, machine, most=most))
        self.same(bench.heights(), heights_of(code, machine, most=most))
        many = len(spots_of(code, machine, most=most))
        self.same(len(bench), many)
        self.same(bench.judged(), many if judged is None else judged)
        self.same(str(bench), f"bound {bound_of(code, machine, most=most)}")
        self.assertEqual(repr(bench), f"Bench({len(code[4])} rows, {many} spots)")
        self.assertTrue(bench == Bench(code, machine, most=most))

    def test_begun(self):
        for code in (CODE, LOOP, of()):
            self.stands(Bench(code, MACHINE), code)
        self.assertEqual(str(Bench(of(), MACHINE)), "bound 4")
        self.assertEqual(repr(Bench(of(), MACHINE)), "Bench(1 rows, 1 spots)")
        self.assertEqual(repr(Bench(of(REST, REST), MACHINE)), "Bench(3 rows, 3 spots)")

    def test_changed_for_another(self):
        bench = Bench(CODE, MACHINE)
        self.same(bench.change(2, REST), anew(CODE, MACHINE, 2, REST))
        self.stands(bench, changed(CODE, 2, REST), anew(CODE, MACHINE, 2, REST))

    def test_the_first_row_and_the_last(self):
        # only row 0 comes to row 0; from everywhere walks come to the end
        bench = Bench(CODE, MACHINE)
        self.same(bench.change(0, ("test", 0, 3)), 1 + len([1 for spot in spots_of(changed(CODE, 0, ("test", 0, 3)), MACHINE)
                                                           if spot not in spots_of(CODE, MACHINE)]))
        bench = Bench(CODE, MACHINE)
        self.same(bench.change(7, END), len(bench))
        bench = Bench(of(REST, REST), MACHINE)
        self.same(bench.change(0, ("set", 0, 1)), 1)
        self.same(bench.change(1, ("set", 0, 1)), 2)
        self.same(bench.change(2, END), 3)

    def test_changed_for_the_same(self):
        # judged anew are its own spots, and those from which walks come to it
        for row in range(8):
            bench = Bench(CODE, MACHINE)
            told = bench.change(row, CODE[4][row])
            self.same(told, anew(CODE, MACHINE, row, CODE[4][row]))
            self.stands(bench, CODE, told)
            self.assertEqual(told == 0, row == 6)
        bench = Bench(LOOP, MACHINE)
        self.same(bench.change(0, REST), 1)
        self.same(bench.change(5, REST), len(bench) - 1)
        # 1, the count, two rows by three rounds
        self.same(bench.change(3, ("again", 2)), 8)

    def test_a_row_that_no_walk_comes_to(self):
        bench = Bench(CODE, MACHINE)
        self.same(bench.change(6, ("set", 1, 200)), 0)
        self.stands(bench, changed(CODE, 6, ("set", 1, 200)), 0)

    def test_rows_that_are_come_to_by_the_change_and_by_it_no_more(self):
        bench = Bench(CODE, MACHINE)
        self.same(bench.change(5, ("go", 6)), anew(CODE, MACHINE, 5, ("go", 6)))
        code = changed(CODE, 5, ("go", 6))
        self.stands(bench, code, anew(CODE, MACHINE, 5, ("go", 6)))
        told = bench.change(0, ("go", 4))
        self.same(told, anew(code, MACHINE, 0, ("go", 4)))
        self.stands(bench, changed(code, 0, ("go", 4)), told)

    def test_a_count_of_more_and_fewer_rounds(self):
        bench = Bench(LOOP, MACHINE)
        for rounds in (6, 1, 2, 2):
            code = bench.code()
            told = bench.change(1, ("count", rounds))
            self.same(told, anew(code, MACHINE, 1, ("count", rounds)))
            self.stands(bench, changed(LOOP, 1, ("count", rounds)), told)

    def test_several_taken_back_one_by_one(self):
        bench = Bench(CODE, MACHINE)
        stood = [(CODE, bench.judged())]
        for row, new in ((2, REST), (2, ("*", 1, 1, 1)), (6, ("go", 7)), (0, ("test", 0, 2)), (4, ("get", 1, 0, 0)), (4, REST)):
            told = bench.change(row, new)
            stood.append((changed(stood[-1][0], row, new), told))
            self.same(told, anew(stood[-2][0], MACHINE, row, new))
            self.stands(bench, *stood[-1])
        while len(stood) > 1:
            stood.pop()
            self.assertIs(bench.back(), None)
            self.stands(bench, *stood[-1])
        # once too often, which changes nothing
        for _ in range(2):
            self.refuses(NoDeed, bench.back)
            self.stands(bench, CODE)

    def test_changed_behind_back(self):
        bench = Bench(CODE, MACHINE)
        bench.change(2, ("*", 1, 1, 1))
        bench.back()
        told = bench.change(1, REST)
        self.stands(bench, changed(CODE, 1, REST), told)
        self.same(told, anew(CODE, MACHINE, 1, REST))
        bench.back()
        self.refuses(NoDeed, bench.back)
        self.stands(bench, CODE)

    def test_picked_changes(self):
        found = 0
        for seed in range(60):
            picks = Picks(seed)
            code = picked_code(picks, 12)
            machine = (1 + picks.below(5), 1 + picks.below(4), 1 + picks.below(2))
            try:
                bench = Bench(code, machine, most=400)
            except TooWide:
                continue
            stood = [code]
            for _ in range(8):
                if len(stood) > 1 and picks.below(4) == 0:
                    bench.back()
                    stood.pop()
                    continue
                row = picks.below(len(code[4]))
                new = picked_row(picks, code[1], code[3])
                if new[0] in ("test", "go") and row < len(code[4]) - 1:
                    new = new[:-1] + (picks.one(well_led(list(stood[-1][4][:-1]), row)),)
                other = changed(stood[-1], row, new)
                if not is_code(other):
                    self.refuses(NoCode, bench.change, row, new)
                    continue
                try:
                    told = bench.change(row, new)
                except TooWide:
                    self.refuses(TooWide, spots_of, other, machine, most=400)
                    continue
                found += 1
                self.same(told, anew(stood[-1], machine, row, new))
                stood.append(other)
                self.stands(bench, other, told, machine, 400)
            self.same(bench.code(), stood[-1])
        self.assertGreater(found, 150)

    def test_what_is_told_and_handed_in_stays(self):
        bench = Bench(CODE, MACHINE)
        heights = bench.heights()
        begun = repr((CODE, heights))
        bench.change(2, REST)
        self.assertEqual(repr((CODE, heights)), begun)
        bench.back()
        self.same(bench.heights(), heights)


class Refused(Case):
    def test_begun(self):
        wide = of(("count", 6), ("count", 6), ("get", 0, 0, 0), *[REST] * 40, ("again", 2), ("again", 1))
        for thing in ANYTHING + unlikely(CODE):
            self.refuses(NoCode, Bench, thing, None, most=0)
        for thing in ANYTHING:
            if thing != (1, 2, 3):
                self.refuses(NoMachine, Bench, wide, thing, most=0)
            if not (type(thing) is int and 1 <= thing <= 5000):
                self.refuses(NoMost, Bench, wide, MACHINE, most=thing)
        self.refuses(TooWide, Bench, wide, MACHINE)
        many = len(spots_of(CODE, MACHINE))
        self.same(len(Bench(CODE, MACHINE, most=many)), many)
        self.refuses(TooWide, Bench, CODE, MACHINE, most=many - 1)

    def unchanged(self, bench, call):
        ahead = (bench.code(), bench.bound(), bench.heights(), bench.judged(), len(bench))
        call()
        self.same((bench.code(), bench.bound(), bench.heights(), bench.judged(), len(bench)), ahead)

    def test_no_row(self):
        for begun in (False, True):
            bench = Bench(CODE, MACHINE)
            if begun:
                bench.change(2, REST)
            for thing in ANYTHING + [8]:
                if not (type(thing) is int and 0 <= thing < 8):
                    for new in (REST, None):
                        self.unchanged(bench, lambda: self.same(self.refuses(NoRow, bench.change, thing, new).number, thing))

    def test_no_code(self):
        bench = Bench(CODE, MACHINE)
        bench.change(3, ("set", 1, 1))
        # what is no row at all, and rows that are none there
        for row in range(8):
            for thing in ANYTHING + [("set", 1), ["rest"], "rest", ("set", 3, 0), ("go", row), ("test", 0, 0), ("count", 2),
                                     ("again", 1), ("get", 1, 1, 0), ("set", True, 0)]:
                if thing == END and row == 7:
                    continue
                self.unchanged(bench, lambda: self.refuses(NoCode, bench.change, row, thing))
        for row, new in ((7, REST), (0, END), (6, ("go", 8)), (3, ("again", 3))):
            self.unchanged(bench, lambda: self.refuses(NoCode, bench.change, row, new))
        loop = Bench(LOOP, MACHINE)
        for row, new in ((1, REST), (3, REST), (1, ("count", 0)), (1, ("count", 7)), (3, ("again", 3)), (0, ("go", 2)), (2, ("count", 1))):
            self.unchanged(loop, lambda: self.refuses(NoCode, loop.change, row, new))

    def test_too_wide(self):
        code = of(REST, REST, REST, REST)
        wide = changed(code, 1, ("get", 1, 0, 0))
        many, most = len(spots_of(code, MACHINE)), len(spots_of(wide, MACHINE))
        self.assertGreater(most, many)
        for limit in (many, most - 1):
            bench = Bench(code, MACHINE, most=limit)
            self.unchanged(bench, lambda: self.refuses(TooWide, bench.change, 1, ("get", 1, 0, 0)))
            self.refuses(NoDeed, bench.back)
        bench = Bench(code, MACHINE, most=most)
        self.same(bench.change(1, ("get", 1, 0, 0)), anew(code, MACHINE, 1, ("get", 1, 0, 0)))
        self.same(len(bench), most)
        # kept spots count, too: of a change far behind, and of one that is taken as often as may be
        bench = Bench(changed(wide, 3, ("set", 1, 1)), MACHINE, most=most)
        self.unchanged(bench, lambda: self.refuses(TooWide, bench.change, 0, ("test", 0, 2)))
        self.refuses(NoDeed, bench.back)

    def test_in_its_order(self):
        bench = Bench(of(REST, REST, REST), MACHINE, most=4)
        self.refuses(NoRow, bench.change, 4, None)
        self.refuses(NoRow, bench.change, True, ("get", 1, 0, 0))
        self.refuses(NoCode, bench.change, 1, ("get", 1, 1, 0))
        self.refuses(TooWide, bench.change, 1, ("get", 1, 0, 0))
        self.same(bench.change(1, ("set", 1, 1)), 2)


class Equal(Case):
    def test_equal(self):
        bench = Bench(CODE, MACHINE)
        self.assertIs(bench == Bench(CODE, MACHINE), True)
        self.assertIs(bench != Bench(CODE, MACHINE), False)
        self.assertIs(bench == Bench(CODE, MACHINE, most=1000), True)
        for other in (Bench(LOOP, MACHINE), Bench(CODE, (3, 1, 2)), Bench(CODE, MACHINE, most=999)):
            self.assertIs(bench == other, False)
            self.assertIs(bench != other, True)

    def test_whatever_was_changed_on_the_way(self):
        bench, other = Bench(CODE, MACHINE), Bench(changed(CODE, 2, REST), MACHINE)
        self.assertIs(bench == other, False)
        bench.change(2, REST)
        self.assertIs(bench == other, True)
        self.assertNotEqual(bench.judged(), other.judged())
        bench.back()
        self.assertIs(bench == other, False)
        other.change(2, CODE[4][2])
        self.assertIs(bench == other, True)

    def test_things_of_all_kinds(self):
        bench = Bench(CODE, MACHINE)
        for thing in ANYTHING + [CODE, MACHINE, (CODE, MACHINE), (CODE, MACHINE, 1000), str(bench), repr(bench), bench.bound(), object()]:
            self.assertIs(bench == thing, False)
            self.assertIs(thing == bench, False)

    def test_refusals_are_of_the_two_families(self):
        self.assertTrue(issubclass(NoDeed, PaceError))
        self.assertTrue(issubclass(NoRow, WalkError))


if __name__ == "__main__":
    unittest.main()
