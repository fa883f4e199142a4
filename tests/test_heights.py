import unittest

from pacebond.bounds.heights import depths_of, heights_of, shows_depths, shows_heights
from pacebond.errors import NoCode, NoMachine, NoMost, TooWide
from pacebond.machine.moods import BEGIN, EMPTY, is_spot
from pacebond.machine.steps import steps_from
from pacebond.machine.walks import spots_of, walked
from tests.samples import ANYTHING, FORTY, Case, Picks, all_walks, picked_code, unlikely, warped

END = ("end",)
REST = ("rest",)
MACHINE = (3, 2, 1)


def of(*rows, asks=(), many=3, arrays=()):
    return (asks, many, 0, arrays, rows + (END,))


TEST = of(("test", 0, 2), ("*", 0, 0, 0), ("copy", 0, 0), asks=((0, 1),), many=1)
TEST_HEIGHTS = (
    (BEGIN, 9),
    ((1, (), ((0, 1), (), ())), 5),
    ((2, (), ((0, 1), (), ())), 2),
    ((2, (), ((0, 1), (), ((0, 2),))), 4),
    ((3, (), ((1, 0), (), ())), 1),
)
LOOP = of(("count", 2), ("test", 0, 4), ("*", 1, 1, 1), ("again", 1), ("copy", 1, 1), asks=((0, 1),))
CELLS = of(("get", 0, 1, 1), ("put", 1, 0, 1), ("test", 0, 4), ("get", 0, 0, 2), arrays=(2, 5))
CODES = (TEST, LOOP, CELLS, of())


def with_number(rows, at, number):
    return rows[:at] + ((rows[at][0], number),) + rows[at + 1:]


def holds(code, machine, thing, well):
    """Whether it is heights or depths, by single steps; well tells of a number and of what it is held against."""
    if type(thing) is not tuple:
        return False
    for one in thing:
        if type(one) is not tuple or len(one) != 2 or type(one[1]) is not int or one[1] < 0:
            return False
        if not is_spot(code, machine, one[0]):
            return False
    numbers = dict(thing)
    if list(thing) != sorted(thing) or len(numbers) != len(thing) or BEGIN not in numbers:
        return False
    for spot, number in thing:
        for fetch, wait, cell, work, behind in steps_from(code, machine, spot):
            if behind is not None and behind not in numbers:
                return False
            if not well(number, fetch + wait + cell + work + (numbers[behind] if behind else 0)):
                return False
    return True


def are_heights(code, machine, thing):
    return holds(code, machine, thing, lambda number, ticks: number >= ticks)


def are_depths(code, machine, thing):
    return holds(code, machine, thing, lambda number, ticks: number <= ticks)


def ahead(code, machine):
    """For each spot all ticks that go on from it, by all walks of a small code."""
    found = {}
    for walk in all_walks(code, machine):
        told = walked(code, machine, walk)
        for at, (spot, _) in enumerate(told):
            found.setdefault(spot, []).append(sum([ticks for _, ticks in told[at:]]))
    return found


class Told(Case):
    def test_of_a_test(self):
        self.same(heights_of(TEST, MACHINE), TEST_HEIGHTS)
        self.same(depths_of(TEST, MACHINE), ((BEGIN, 7),) + TEST_HEIGHTS[1:])

    def test_of_the_least_code(self):
        self.same(heights_of(of(), (4, 1, 1)), ((BEGIN, 5),))
        self.same(depths_of(of(), (4, 1, 1)), ((BEGIN, 5),))

    def test_of_a_loop(self):
        near = ((0,), (), ())
        self.same(heights_of(of(("count", 3), ("again", 1)), (5, 1, 1)), (
            (BEGIN, 17), ((1, (1,), near), 7), ((1, (2,), near), 9), ((1, (3,), near), 11), ((2, (), near), 6)))

    def test_of_an_array_of_several_lines(self):
        # one line of cells is near: the second get may hit, or miss
        code = of(("get", 0, 0, 0), ("put", 0, 1, 1), arrays=(4,))
        told = dict(heights_of(code, (5, 4, 1)))
        self.assertEqual((told[BEGIN], dict(depths_of(code, (5, 4, 1)))[BEGIN]), (5 + 5 + 1 + 5 + 1 + 1, 5 + 5 + 1 + 1 + 1))
        self.assertEqual([spot[2][1] for spot in told], [(), (0,), (1,), (0,), (1,)])

    def test_the_most_and_the_fewest_ticks_of_all_walks(self):
        tried = 0
        for code in CODES + tuple([picked_code(Picks(seed), 7) for seed in range(60)]):
            for machine in ((1, 1, 1), (4, 2, 2), (9, 4, 1)):
                try:
                    spots = spots_of(code, machine, most=60)
                except TooWide:
                    continue
                tried += 1
                found = ahead(code, machine)
                self.assertEqual(sorted(found), list(spots))
                self.same(heights_of(code, machine), tuple([(spot, max(found[spot])) for spot in spots]))
                self.same(depths_of(code, machine), tuple([(spot, min(found[spot])) for spot in spots]))
        self.assertGreater(tried, 60)

    def test_of_a_long_code(self):
        code = of(("count", 6), ("count", 6), *[REST] * 20, ("again", 2), ("again", 1))
        told = heights_of(code, (1, 4, 1), most=5000)
        self.assertGreater(len(told), 700)
        self.assertIs(shows_heights(code, (1, 4, 1), told), True)


class Shown(Case):
    def both(self, code, machine, thing):
        """What is shown is just what single steps show; told is (whether it is heights, whether depths)."""
        shown = (self.truth(shows_heights(code, machine, thing)), self.truth(shows_depths(code, machine, thing)))
        self.assertEqual(shown, (are_heights(code, machine, thing), are_depths(code, machine, thing)), thing)
        return shown

    def test_what_is_told(self):
        for code in CODES:
            for machine in (MACHINE, (1, 1, 4), (20, 4, 2)):
                heights, depths = heights_of(code, machine), depths_of(code, machine)
                self.assertEqual(self.both(code, machine, heights)[0], True)
                self.assertEqual(self.both(code, machine, depths)[1], True)

    def test_moved_at_all_spots(self):
        for code in CODES:
            heights, depths = heights_of(code, MACHINE), depths_of(code, MACHINE)
            for more in (1, 7, FORTY):
                self.assertEqual(self.both(code, MACHINE, tuple([(spot, number + more) for spot, number in heights]))[0], True)
            self.assertEqual(self.both(code, MACHINE, tuple([(spot, 0) for spot, _ in depths]))[1], True)
            self.assertEqual(
                self.both(code, MACHINE, tuple([(spot, max(0, number - 2)) for spot, number in depths]))[1], True)

    def test_one_moved(self):
        for code in CODES:
            heights, depths = heights_of(code, MACHINE), depths_of(code, MACHINE)
            for at, (spot, number) in enumerate(heights):
                self.assertIs(shows_heights(code, MACHINE, with_number(heights, at, number - 1)), False)
                self.assertIs(shows_depths(code, MACHINE, with_number(depths, at, depths[at][1] + 1)), False)
                self.both(code, MACHINE, with_number(heights, at, number + 1))
                self.both(code, MACHINE, with_number(depths, at, max(0, depths[at][1] - 1)))

    def test_one_left_out(self):
        for code in CODES:
            heights, depths = heights_of(code, MACHINE), depths_of(code, MACHINE)
            for at in range(len(heights)):
                self.assertIs(shows_heights(code, MACHINE, heights[:at] + heights[at + 1:]), False)
                self.assertIs(shows_depths(code, MACHINE, depths[:at] + depths[at + 1:]), False)

    def test_out_of_order_and_twice(self):
        for show, rows in ((shows_heights, heights_of(TEST, MACHINE)), (shows_depths, depths_of(TEST, MACHINE))):
            self.assertIs(show(TEST, MACHINE, rows[::-1]), False)
            for at in range(len(rows) - 1):
                self.assertIs(show(TEST, MACHINE, rows[:at] + (rows[at + 1], rows[at]) + rows[at + 2:]), False)
            for at, (spot, number) in enumerate(rows):
                self.assertIs(show(TEST, MACHINE, rows[:at] + (rows[at],) + rows[at:]), False)
                for other in (number + 1, max(0, number - 1)):
                    self.assertIs(show(TEST, MACHINE, rows[:at] + (rows[at], (spot, other)) + rows[at + 1:]), False)
                    self.assertIs(show(TEST, MACHINE, rows[:at] + ((spot, other), rows[at]) + rows[at + 1:]), False)

    def test_a_spot_that_no_walk_comes_to(self):
        spot = (3, (), EMPTY)
        heights, depths = heights_of(TEST, MACHINE), depths_of(TEST, MACHINE)
        for number, both in ((3, (False, True)), (4, (True, True)), (5, (True, False)), (0, (False, True))):
            self.assertIs(shows_heights(TEST, MACHINE, tuple(sorted(heights + ((spot, number),)))), both[0])
            self.assertIs(shows_depths(TEST, MACHINE, tuple(sorted(depths + ((spot, number),)))), both[1])
        # a spot from which a step leads to one that isn't there
        for outer in ((2, (), EMPTY), (1, (), ((0,), (), ()))):
            for number in (0, FORTY):
                self.assertIs(shows_heights(TEST, MACHINE, tuple(sorted(heights + ((outer, number),)))), False)
                self.assertIs(shows_depths(TEST, MACHINE, tuple(sorted(depths + ((outer, number),)))), False)
        # no spots
        for none in ((4, (), EMPTY), (3, (1,), EMPTY), (3, (), ((2,), (), ()))):
            self.assertIs(shows_heights(TEST, MACHINE, tuple(sorted(heights + ((none, 9),)))), False)

    def test_without_the_first_spot(self):
        self.assertIs(shows_heights(TEST, MACHINE, TEST_HEIGHTS[1:]), False)
        self.assertIs(shows_depths(TEST, MACHINE, TEST_HEIGHTS[1:]), False)
        self.assertIs(shows_heights(TEST, MACHINE, ()), False)
        self.assertIs(shows_depths(TEST, MACHINE, ()), False)

    def test_a_truth_in_the_place_of_a_number(self):
        self.assertIs(shows_heights(TEST, MACHINE, with_number(TEST_HEIGHTS, 4, True)), False)
        self.assertIs(shows_depths(TEST, MACHINE, with_number(depths_of(TEST, MACHINE), 4, True)), False)
        self.assertIs(shows_depths(TEST, MACHINE, with_number(depths_of(TEST, MACHINE), 4, False)), False)
        for thing in unlikely(TEST_HEIGHTS):
            self.assertIs(shows_heights(TEST, MACHINE, thing), False)
            self.assertIs(shows_depths(TEST, MACHINE, thing), False)

    def test_of_anything(self):
        for thing in ANYTHING:
            self.assertEqual(self.both(of(), MACHINE, thing), (False, False))
        for thing in warped(TEST_HEIGHTS) + warped(((BEGIN, 4),)) + warped(depths_of(TEST, MACHINE)):
            self.both(TEST, MACHINE, thing)
            self.both(of(), MACHINE, thing)

    def test_of_another_code_or_machine(self):
        heights = heights_of(LOOP, MACHINE)
        self.assertIs(shows_heights(LOOP, MACHINE, heights), True)
        for code, machine in ((LOOP, (4, 2, 1)), (LOOP, (3, 1, 1)), (TEST, MACHINE), (of(), MACHINE)):
            self.assertIs(shows_heights(code, machine, heights), False)


class Refused(Case):
    def test_in_order(self):
        for thing in ANYTHING:
            for call in (heights_of, depths_of):
                self.refuses(NoCode, call, thing, None, most=0)
                if thing != (1, 2, 3):
                    self.refuses(NoMachine, call, TEST, thing, most=0)
                if not (type(thing) is int and 1 <= thing <= 5000):
                    self.refuses(NoMost, call, TEST, MACHINE, most=thing)
            for call in (shows_heights, shows_depths):
                self.refuses(NoCode, call, thing, None, None)
                if thing != (1, 2, 3):
                    self.refuses(NoMachine, call, TEST, thing, None)

    def test_just_as_many_spots_and_one_fewer(self):
        for call in (heights_of, depths_of):
            for code in CODES:
                many = len(spots_of(code, MACHINE))
                self.assertEqual(len(call(code, MACHINE, most=many)), many)
                if many > 1:
                    self.refuses(TooWide, call, code, MACHINE, most=many - 1)
            wide = of(("count", 6), ("count", 6), *[REST] * 40, ("again", 2), ("again", 1))
            self.refuses(TooWide, call, wide, MACHINE)
            self.assertGreater(len(call(wide, MACHINE, most=5000)), 1000)

    def test_what_is_shown_is_never_too_wide(self):
        wide = of(("count", 6), ("count", 6), *[REST] * 40, ("again", 2), ("again", 1))
        self.assertIs(shows_heights(wide, MACHINE, heights_of(wide, MACHINE, most=5000)), True)
        self.assertIs(shows_depths(wide, MACHINE, depths_of(wide, MACHINE, most=5000)), True)
        self.assertIs(shows_heights(wide, MACHINE, ()), False)
        with self.assertRaises(TypeError):
            shows_heights(TEST, MACHINE, TEST_HEIGHTS, most=5)


if __name__ == "__main__":
    unittest.main()
