import unittest

from pacebond.errors import NoCode, NoNumber, NoStore
from pacebond.machine.near import asked, is_machine, line_of_cell, line_of_row, lines_of
from tests.samples import ANYTHING, FORTY, Case, unlikely, warped


def of(*arrays):
    return ((), 1, 0, arrays, (("end",),))


class Machines(Case):
    def test_at_the_edges(self):
        for machine in ((1, 1, 1), (20, 4, 4), (5, 2, 1), (1, 4, 1), (20, 1, 4)):
            self.assertIs(is_machine(machine), True, machine)
        for thing in ((0, 1, 1), (21, 1, 1), (1, 0, 1), (1, 5, 1), (1, 1, 0), (1, 1, 5), (1, 1), (1, 1, 1, 1), (-1, 1, 1),
                      (True, 1, 1), (1, True, 1), (1, 1, True), [1, 1, 1], (FORTY, 1, 1), (None, 1, 1), ("5", 2, 1)):
            self.assertIs(is_machine(thing), False, thing)

    def test_of_anything(self):
        for thing in ANYTHING + warped((5, 2, 1)):
            self.truth(is_machine(thing))
        for thing in unlikely((1, 1, 1)):
            self.assertIs(is_machine(thing), False)


class Lines(Case):
    def test_of_rows(self):
        for row, line in ((0, 0), (1, 0), (2, 1), (3, 1), (58, 29), (59, 29), (1000, 500), (FORTY, FORTY // 2)):
            self.same(line_of_row(row), line)
        for thing in ANYTHING:
            if type(thing) is not int or thing < 0:
                self.assertIs(self.refuses(NoNumber, line_of_row, thing).number, thing)

    def test_of_cells(self):
        self.same([line_of_cell(of(6), 0, cell) for cell in range(6)], [0, 0, 1, 1, 2, 2])
        self.same([line_of_cell(of(4, 3), 1, cell) for cell in range(3)], [2, 2, 3])
        self.same(line_of_cell(of(1), 0, 0), 0)

    def test_of_two_arrays_which_share_no_line(self):
        for size in range(1, 7):
            for other in range(1, 7):
                first, second = lines_of(of(size, other), 0), lines_of(of(size, other), 1)
                self.assertEqual(first + second, tuple(range(len(first) + len(second))))
                for array, many, lines in ((0, size, first), (1, other, second)):
                    told = [line_of_cell(of(size, other), array, cell) for cell in range(many)]
                    self.assertEqual(sorted(set(told)), list(lines))
        self.same([line_of_cell(of(3, 2), 0, cell) for cell in range(3)], [0, 0, 1])
        self.same([line_of_cell(of(3, 2), 1, cell) for cell in range(2)], [2, 2])
        self.same([line_of_cell(of(1, 5), 1, cell) for cell in range(5)], [1, 1, 2, 2, 3])

    def test_of_arrays(self):
        for size, lines in ((1, (0,)), (2, (0,)), (3, (0, 1)), (4, (0, 1)), (5, (0, 1, 2)), (6, (0, 1, 2))):
            self.same(lines_of(of(size), 0), lines)
            self.same(lines_of(of(size, 1), 0), lines)
        self.same(lines_of(of(3, 2), 1), (2,))
        self.same(lines_of(of(6, 6), 1), (3, 4, 5))

    def test_numbers_that_are_none(self):
        code = of(3, 2)
        for thing in ANYTHING + [2]:
            if type(thing) is int and thing in (0, 1):
                continue
            self.assertIs(self.refuses(NoNumber, lines_of, code, thing).number, thing)
            self.assertIs(self.refuses(NoNumber, line_of_cell, code, thing, None).number, thing)
            if not (type(thing) is int and thing == 2):
                self.assertIs(self.refuses(NoNumber, line_of_cell, code, 0, thing).number, thing)
            self.assertIs(self.refuses(NoNumber, line_of_cell, code, 1, thing).number, thing)
        self.refuses(NoNumber, lines_of, of(), 0)
        self.refuses(NoNumber, line_of_cell, of(), 0, 0)
        self.refuses(NoNumber, line_of_cell, of(3), 0, 3)

    def test_the_code_is_refused_first(self):
        for thing in ANYTHING:
            self.refuses(NoCode, lines_of, thing, None)
            self.refuses(NoCode, line_of_cell, thing, None, None)


class Asked(Case):
    def test_hits(self):
        self.same(asked((3,), 3, 1), (True, (3,)))
        self.same(asked((3, 5), 3, 2), (True, (3, 5)))
        self.same(asked((3, 5), 5, 2), (True, (5, 3)))
        self.same(asked((3, 5, 7, 9), 7, 4), (True, (7, 3, 5, 9)))
        self.same(asked((3, 5), 5, 4), (True, (5, 3)))

    def test_misses(self):
        self.same(asked((), 0, 1), (False, (0,)))
        self.same(asked((3,), 5, 1), (False, (5,)))
        self.same(asked((3,), 5, 2), (False, (5, 3)))
        self.same(asked((3, 5, 7), 9, 3), (False, (9, 3, 5)))
        self.same(asked((3, 5, 7), 9, 4), (False, (9, 3, 5, 7)))

    def test_a_miss_brings_lines(self):
        self.same(asked((), 4, 1, brought=(5,)), (False, (4,)))
        self.same(asked((), 4, 2, brought=(5,)), (False, (4, 5)))
        self.same(asked((1, 2), 4, 2, brought=(5,)), (False, (4, 5)))
        self.same(asked((1, 2, 3), 4, 3, brought=(5,)), (False, (4, 5, 1)))
        self.same(asked((1, 2, 3, 0), 4, 4, brought=(9, 5)), (False, (4, 9, 5, 1)))
        self.same(asked((), 4, 4, brought=(9, 8, 7, 6, 5, 3, 2)), (False, (4, 9, 8, 7)))

    def test_brought_lines_that_stand_there_already(self):
        self.same(asked((1, 5), 4, 2, brought=(5,)), (False, (4, 5)))
        self.same(asked((1, 2, 5), 4, 3, brought=(5,)), (False, (4, 5, 1)))
        self.same(asked((5, 1, 2), 4, 4, brought=(5,)), (False, (4, 5, 1, 2)))
        self.same(asked((1, 2, 5), 4, 4, brought=(2, 1)), (False, (4, 2, 1, 5)))
        self.same(asked((2,), 4, 1, brought=(2,)), (False, (4,)))

    def test_a_hit_brings_none(self):
        self.same(asked((1, 4), 4, 4, brought=(5,)), (True, (4, 1)))
        self.same(asked((1, 5, 4), 4, 4, brought=(5,)), (True, (4, 1, 5)))

    def test_a_hit_may_make_all_slower(self):
        def misses(store):
            many = 0
            for line in (0, 1, 0):
                hit, store = asked(store, line, 2, brought=(line + 1,))
                many += not hit
            return many

        self.assertEqual(misses((0, 5)), 2)
        self.assertEqual(misses((5, 6)), 1)

    def test_stores_that_are_none(self):
        for thing in ANYTHING + [(3, 3), (3, 5, 3), (0, -1), (0, True), (0, 1, 2, 3, 4), [3], (3, "5"), ((3,),)]:
            if thing == () or (type(thing) is tuple and 0 < len(thing) <= 4
                               and all(type(part) is int and part >= 0 for part in thing)
                               and len(set(thing)) == len(thing)):
                self.truth(asked(thing, 99, 4)[0])
                continue
            self.refuses(NoStore, asked, thing, 99, 4)
            self.refuses(NoStore, asked, thing, None, None, brought=None)

    def test_stores_greater_than_the_size(self):
        for size in range(1, 5):
            self.truth(asked(tuple(range(size)), 9, size)[0])
            self.refuses(NoStore, asked, tuple(range(size + 1)), 9, size)
        # where the size is none itself it tells nothing of the store
        for size in (0, 5, -1, True, None, "1", (1,)):
            self.assertIs(self.refuses(NoNumber, asked, (0, 1, 2, 3), 9, size).number, size)
            self.refuses(NoStore, asked, (0, 1, 2, 3, 4), 9, size)
        self.refuses(NoStore, asked, (0, 1, 2), None, 2)

    def test_lines_and_sizes_that_are_none(self):
        for thing in ANYTHING:
            if type(thing) is not int or thing < 0:
                self.assertIs(self.refuses(NoNumber, asked, (), thing, 0, brought=None).number, thing)
            if type(thing) is not int or not 1 <= thing <= 4:
                self.assertIs(self.refuses(NoNumber, asked, (), 0, thing, brought=None).number, thing)
        self.same(asked((FORTY,), FORTY - 1, 2, brought=(FORTY - 2,)), (False, (FORTY - 1, FORTY - 2)))

    def test_brought_lines_that_are_none(self):
        for thing in ANYTHING + [(3, 3), (7,), (1, 7), (1, -1), (1, True), [1]]:
            if thing == () or (type(thing) is tuple and 7 not in thing
                               and all(type(part) is int and part >= 0 for part in thing)
                               and len(set(thing)) == len(thing)):
                self.truth(asked((), 7, 4, brought=thing)[0])
                continue
            self.refuses(NoStore, asked, (), 7, 4, brought=thing)
            self.refuses(NoStore, asked, (7,), 7, 4, brought=thing)

    def test_brought_is_handed_in_by_name(self):
        with self.assertRaises(TypeError):
            asked((), 0, 1, (1,))


if __name__ == "__main__":
    unittest.main()
