import unittest

from pacebond.bounds.heights import depths_of, heights_of, shows_heights
from pacebond.bounds.longest import bound_of, longest, shortest, shows_longest, shows_shortest, swiftest_of
from pacebond.errors import NoCode, NoMachine, NoMost, TooWide
from pacebond.machine.moods import BEGIN, EMPTY
from pacebond.machine.walks import is_walk, spots_of, ticks_of
from tests.samples import ANYTHING, FORTY, Case, Picks, all_walks, picked_code, put_at, unlikely, warped

END = ("end",)
REST = ("rest",)
MACHINE = (3, 2, 1)


def of(*rows, asks=(), many=3, arrays=()):
    return (asks, many, 0, arrays, rows + (END,))


TEST = of(("test", 0, 2), ("*", 0, 0, 0), ("copy", 0, 0), asks=((0, 1),), many=1)
LOOP = of(("count", 2), ("test", 0, 4), ("*", 1, 1, 1), ("again", 1), ("copy", 1, 1), asks=((0, 1),))
CELLS = of(("get", 0, 1, 1), ("put", 1, 0, 1), ("test", 0, 4), ("get", 0, 0, 2), arrays=(2, 5))
CODES = (TEST, LOOP, CELLS, of())
WIDE = of(("count", 6), ("count", 6), *[REST] * 40, ("again", 2), ("again", 1))


def moved(rows, more):
    return tuple([(spot, number + more) for spot, number in rows])


class Told(Case):
    def test_of_a_test(self):
        self.same(bound_of(TEST, MACHINE), 9)
        self.same(swiftest_of(TEST, MACHINE), 7)
        self.same(longest(TEST, MACHINE), (9, (0, 0, 0, 0), heights_of(TEST, MACHINE)))
        self.same(shortest(TEST, MACHINE), (7, (1, 0, 0), depths_of(TEST, MACHINE)))

    def test_of_the_least_code(self):
        self.same(bound_of(of(), (20, 1, 1)), 21)
        self.same(swiftest_of(of(), (20, 1, 1)), 21)

    def test_the_longest_and_the_shortest_of_all_walks(self):
        tried = 0
        for code in CODES + tuple([picked_code(Picks(seed), 8) for seed in range(80)]):
            for machine in ((1, 1, 1), (4, 2, 2), (9, 4, 1)):
                try:
                    spots_of(code, machine, most=60)
                except TooWide:
                    continue
                tried += 1
                ticks = [ticks_of(code, machine, walk) for walk in all_walks(code, machine)]
                self.same(bound_of(code, machine), max(ticks))
                self.same(swiftest_of(code, machine), min(ticks))
                for call, number, numbers in ((longest, max(ticks), heights_of), (shortest, min(ticks), depths_of)):
                    told = call(code, machine)
                    self.same(told, (number, told[1], numbers(code, machine)))
                    self.assertIs(is_walk(code, machine, told[1]), True)
                    self.assertEqual(ticks_of(code, machine, told[1]), number)
        self.assertGreater(tried, 60)


class Shown(Case):
    def test_what_is_told(self):
        for code in CODES:
            for machine in (MACHINE, (1, 1, 4), (20, 4, 2)):
                self.assertIs(shows_longest(code, machine, longest(code, machine)), True)
                self.assertIs(shows_shortest(code, machine, shortest(code, machine)), True)

    def test_a_number_one_more_and_one_less(self):
        for code in CODES:
            for show, paper in ((shows_longest, longest(code, MACHINE)), (shows_shortest, shortest(code, MACHINE))):
                ticks, walk, numbers = paper
                for more in (1, -1):
                    self.assertIs(show(code, MACHINE, (ticks + more, walk, numbers)), False)
                    self.assertIs(show(code, MACHINE, (ticks + more, walk, moved(numbers, more))), False)
                    self.assertIs(show(code, MACHINE, (ticks, walk, moved(numbers, more))), False)

    def test_any_heights_and_depths(self):
        ticks, walk, heights = longest(TEST, MACHINE)
        more = tuple(sorted(heights + (((3, (), EMPTY), 60),)))
        self.assertIs(shows_longest(TEST, MACHINE, (ticks, walk, more)), True)
        fewer = depths_of(TEST, MACHINE)
        lower = fewer[:1] + tuple([(spot, number - 1 if spot[0] == 1 or spot[2][2] else number) for spot, number in fewer[1:]])
        self.assertNotEqual(lower, fewer)
        self.assertIs(shows_shortest(TEST, MACHINE, (7, (1, 0, 0), lower)), True)

    def test_any_walk_that_takes_as_long(self):
        code = of(("test", 0, 1), asks=((0, 1),))
        heights, depths = heights_of(code, MACHINE), depths_of(code, MACHINE)
        for walk in ((0, 0), (1, 0)):
            self.assertIs(shows_longest(code, MACHINE, (5, walk, heights)), True)
            self.assertIs(shows_shortest(code, MACHINE, (5, walk, depths)), True)

    def test_another_walk(self):
        heights, depths = heights_of(TEST, MACHINE), depths_of(TEST, MACHINE)
        for ticks in (7, 9):
            self.assertIs(shows_longest(TEST, MACHINE, (ticks, (1, 0, 0), heights)), False)
            self.assertIs(shows_shortest(TEST, MACHINE, (ticks, (0, 0, 0, 0), depths)), False)

    def test_no_walk(self):
        heights, depths = heights_of(TEST, MACHINE), depths_of(TEST, MACHINE)
        for walk in ((0, 0, 0), (0, 0, 0, 0, 0), (1, 0), (1, 0, 0, 0), (), (2, 0, 0), [0, 0, 0, 0], (0, 0, 0, False), None):
            for ticks in range(12):
                self.assertIs(shows_longest(TEST, MACHINE, (ticks, walk, heights)), False)
                self.assertIs(shows_shortest(TEST, MACHINE, (ticks, walk, depths)), False)

    def test_no_heights(self):
        ticks, walk, heights = longest(TEST, MACHINE)
        for at, (spot, number) in enumerate(heights):
            lower = heights[:at] + ((spot, number - 1),) + heights[at + 1:]
            self.assertIs(shows_longest(TEST, MACHINE, (ticks, walk, lower)), False)
            self.assertIs(shows_longest(TEST, MACHINE, (ticks, walk, heights[:at] + heights[at + 1:])), False)
        ticks, walk, depths = shortest(TEST, MACHINE)
        for at, (spot, number) in enumerate(depths):
            higher = depths[:at] + ((spot, number + 1),) + depths[at + 1:]
            self.assertIs(shows_shortest(TEST, MACHINE, (ticks, walk, higher)), False)
            self.assertIs(shows_shortest(TEST, MACHINE, (ticks, walk, depths[:at] + depths[at + 1:])), False)
        # depths are no heights where walks differ, and the other way round
        self.assertIs(shows_longest(TEST, MACHINE, (9, (0, 0, 0, 0), depths_of(TEST, MACHINE))), False)
        self.assertIs(shows_shortest(TEST, MACHINE, (7, (1, 0, 0), heights_of(TEST, MACHINE))), False)

    def test_one_part_otherwise(self):
        for code in CODES:
            for show, paper in ((shows_longest, longest(code, MACHINE)), (shows_shortest, shortest(code, MACHINE))):
                for thing in unlikely(paper) + [paper[:2], paper + (0,), (), (paper,)]:
                    self.assertIs(show(code, MACHINE, thing), False)

    def test_of_anything(self):
        for thing in ANYTHING:
            for code in CODES:
                self.assertIs(shows_longest(code, MACHINE, thing), False)
                self.assertIs(shows_shortest(code, MACHINE, thing), False)
        paper = longest(TEST, MACHINE)
        for thing in warped(paper):
            # all that may be otherwise are greater heights beside the walk
            if self.truth(shows_longest(TEST, MACHINE, thing)):
                self.same(thing[:2], paper[:2])
                self.assertIs(shows_heights(TEST, MACHINE, thing[2]), True)
                self.assertEqual(thing[2][0], (BEGIN, 9))
        for part in ANYTHING:
            self.assertIs(shows_longest(TEST, MACHINE, put_at(paper, (0,), part)), False)
            self.assertIs(shows_shortest(TEST, MACHINE, put_at(shortest(TEST, MACHINE), (0,), part)), repr(part) == "7")
        for none in (None, (), (0,)):
            self.assertIs(shows_longest(TEST, MACHINE, (None, none, paper[2])), False)
            self.assertIs(shows_shortest(TEST, MACHINE, (None, none, depths_of(TEST, MACHINE))), False)
        self.assertIs(shows_longest(TEST, MACHINE, (FORTY, paper[1], moved(paper[2], FORTY))), False)
        self.assertIs(shows_shortest(of(), MACHINE, (0, (0,), ((BEGIN, 0),))), False)


class Refused(Case):
    def test_in_order(self):
        for thing in ANYTHING:
            for call in (bound_of, swiftest_of, longest, shortest):
                self.refuses(NoCode, call, thing, None, most=0)
                if thing != (1, 2, 3):
                    self.refuses(NoMachine, call, TEST, thing, most=0)
                if not (type(thing) is int and 1 <= thing <= 5000):
                    self.refuses(NoMost, call, WIDE, MACHINE, most=thing)
            for call in (shows_longest, shows_shortest):
                self.refuses(NoCode, call, thing, None, None)
                if thing != (1, 2, 3):
                    self.refuses(NoMachine, call, TEST, thing, None)

    def test_just_as_many_spots_and_one_fewer(self):
        for call in (bound_of, swiftest_of, longest, shortest):
            for code in CODES[:3]:
                many = len(spots_of(code, MACHINE))
                self.same(call(code, MACHINE, most=many), call(code, MACHINE))
                self.refuses(TooWide, call, code, MACHINE, most=many - 1)
            self.refuses(TooWide, call, WIDE, MACHINE)
            call(WIDE, MACHINE, most=5000)

    def test_what_is_shown_is_never_too_wide(self):
        self.assertIs(shows_longest(WIDE, MACHINE, longest(WIDE, MACHINE, most=5000)), True)
        self.assertIs(shows_shortest(WIDE, MACHINE, shortest(WIDE, MACHINE, most=5000)), True)
        self.assertIs(shows_longest(WIDE, MACHINE, None), False)


if __name__ == "__main__":
    unittest.main()
