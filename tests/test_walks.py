import unittest

from pacebond.codes.runs import trace
from pacebond.errors import NoCode, NoInput, NoMachine, NoMost, NoWalk, TooWide
from pacebond.machine.moods import BEGIN, is_spot
from pacebond.machine.steps import steps_from
from pacebond.machine.walks import MOST, is_walk, misses_of, spot_at, spots_of, ticks_of, walk_of, walked
from pacebond.text.terms import OPS
from tests.samples import ANYTHING, FORTY, Case, Picks, all_inputs, all_walks, picked_code

END = ("end",)
REST = ("rest",)
MACHINE = (3, 1, 1)

SMALL = (
    ((0, 1),), 1, 0, (),
    (
        ("test", 0, 2),      # 0
        ("*", 0, 0, 0),      # 1
        ("copy", 0, 0),      # 2
        END,                 # 3
    ),
)
SPOTS = (
    BEGIN,
    (1, (), ((0,), (), ())),
    (2, (), ((0,), (), ())),
    (2, (), ((0,), (), ((0, 2),))),
    (3, (), ((1,), (), ())),
)


def of(*rows, asks=(), many=3, arrays=()):
    return (asks, many, 0, arrays, rows + (END,))


class Clock:
    """A run on a machine by moments: a register is there from a moment on, and the clock goes on."""

    def __init__(self, code, machine, worths):
        self.code = code
        self.far, self.rows_size, self.cells_size = machine
        self.now = 0
        self.misses = 0
        self.worths = list(worths) + [0] * (code[1] - len(code[0]))
        self.cells = [[0] * size for size in code[3]]
        self.there = [0] * code[1]
        self.near = {"rows": [], "cells": []}
        self.ticks = []

    def ask(self, store, line, size, more):
        near = self.near[store]
        if line in near:
            near.remove(line)
            near.insert(0, line)
            return
        self.misses += 1
        self.now += self.far
        self.near[store] = ([line] + more + [one for one in near if one != line and one not in more])[:size]

    def go(self):
        rows = self.code[4]
        at, left = 0, {}
        while at is not None:
            begun = self.now
            row = rows[at]
            last = (len(rows) - 1) // 2
            self.ask("rows", at // 2, self.rows_size, [at // 2 + 1] if at // 2 < last else [])
            at = self.do(at, row, left)
            self.ticks.append(self.now - begun)
        return self

    def cell(self, array, number):
        many = len(self.cells[array])
        base = 0
        for size in self.code[3][:array]:
            base += size + size % 2
        self.ask("cells", (base + number % many) // 2, self.cells_size, [])
        return number % many

    def wait_for(self, *ones):
        self.now = max([self.now] + [self.there[one] for one in ones])

    def give(self, one, worth, later=0):
        self.worths[one] = worth
        self.now += 1
        self.there[one] = self.now + later

    def do(self, at, row, left):
        word = row[0]
        if word == "set":
            self.give(row[1], row[2])
        elif word == "copy":
            self.wait_for(row[2])
            self.give(row[1], self.worths[row[2]])
        elif word in OPS:
            self.wait_for(row[2], row[3])
            self.give(row[1], OPS[word](self.worths[row[2]], self.worths[row[3]]), 2 if word == "*" else 0)
        elif word == "get":
            self.wait_for(row[3])
            cell = self.cell(row[2], self.worths[row[3]])
            self.give(row[1], self.cells[row[2]][cell], 1)
        elif word == "put":
            self.wait_for(row[2], row[3])
            cell = self.cell(row[1], self.worths[row[2]])
            self.cells[row[1]][cell] = self.worths[row[3]]
            self.now += 1
        else:
            return self.leave(at, row, left)
        return at + 1

    def leave(self, at, row, left):
        to = at + 1
        if row[0] == "test":
            self.wait_for(row[1])
            to = row[2] if self.worths[row[1]] == 0 else to
        if row[0] == "go":
            to = row[1]
        if row[0] == "count":
            left[at] = row[1]
        if row[0] == "again":
            left[row[1] - 1] -= 1
            to = row[1] if left[row[1] - 1] > 0 else to
        self.now += 1 if to == at + 1 else 2
        return None if row[0] == "end" else to


class Small(Case):
    def test_all_walks(self):
        self.assertEqual(all_walks(SMALL, MACHINE), [(0, 0, 0, 0), (1, 0, 0)])
        for walk in ((0, 0, 0, 0), (1, 0, 0)):
            self.assertIs(is_walk(SMALL, MACHINE, walk), True)
            self.same(ticks_of(SMALL, MACHINE, walk), 10)
            self.same(misses_of(SMALL, MACHINE, walk), 2)

    def test_walked(self):
        self.same(walked(SMALL, MACHINE, (0, 0, 0, 0)), ((SPOTS[0], 4), (SPOTS[1], 1), (SPOTS[3], 4), (SPOTS[4], 1)))
        self.same(walked(SMALL, MACHINE, (1, 0, 0)), ((SPOTS[0], 5), (SPOTS[2], 4), (SPOTS[4], 1)))

    def test_spots(self):
        self.same(spots_of(SMALL, MACHINE), SPOTS)
        self.same(spots_of(of(), MACHINE), (BEGIN,))

    def test_spot_at(self):
        for choices, spot in (
            ((), SPOTS[0]), ((0,), SPOTS[1]), ((0, 0), SPOTS[3]), ((0, 0, 0), SPOTS[4]), ((0, 0, 0, 0), None),
            ((1,), SPOTS[2]), ((1, 0), SPOTS[4]), ((1, 0, 0), None),
        ):
            self.same(spot_at(SMALL, MACHINE, choices), spot)

    def test_walk_of(self):
        self.same(walk_of(SMALL, MACHINE, (1,)), (0, 0, 0, 0))
        self.same(walk_of(SMALL, MACHINE, (0,)), (1, 0, 0))


class WalksOfCodes(Case):
    ALL = of(("test", 0, 3), ("get", 1, 0, 0), ("*", 1, 1, 1), ("put", 1, 1, 0), asks=((0, 5), (0, 1)), arrays=(5, 3))

    def test_walks_of_all_choices(self):
        wanted = sorted([(0, get, 0, put, 0) for get in range(3) for put in range(2)] + [(1, put, 0) for put in range(2)])
        self.assertEqual(all_walks(self.ALL, MACHINE), wanted)
        for walk in wanted:
            self.assertIs(is_walk(self.ALL, MACHINE, walk), True)
            self.refuses_at(self.ALL, walk + (0,), len(walk))
            for at in range(len(walk)):
                self.refuses_at(self.ALL, walk[:at], at)
                for choice in (3, -1, True, None, "0", (0,)):
                    self.refuses_at(self.ALL, walk[:at] + (choice,) + walk[at + 1:], at)

    def refuses_at(self, code, walk, at):
        self.assertIs(is_walk(code, MACHINE, walk), False)
        for call in (walked, ticks_of, misses_of):
            self.same(self.refuses(NoWalk, call, code, MACHINE, walk).at, at)

    def test_ticks_and_misses_of_each(self):
        machine = (5, 2, 1)
        # row 0 misses and brings lines 0, 1; row 4 stands in line 2, and misses again
        for walk, ticks, misses in (
            ((0, 0, 0, 0, 0), (6, 6, 2, 8, 6), 4), ((0, 2, 0, 1, 0), (6, 6, 2, 8, 6), 4),
            ((1, 0, 0), (7, 6, 6), 3), ((1, 1, 0), (7, 6, 6), 3),
        ):
            self.same(tuple([one for _, one in walked(self.ALL, machine, walk)]), ticks)
            self.same(ticks_of(self.ALL, machine, walk), sum(ticks))
            self.same(misses_of(self.ALL, machine, walk), misses)

    def test_each_place_of_no_walk(self):
        # no choice there
        self.refuses_at(SMALL, (2, 0, 0), 0)
        self.refuses_at(SMALL, (0, 1, 0, 0), 1)
        self.refuses_at(SMALL, (0, 0, 0, 1), 3)
        self.refuses_at(SMALL, (0, 9, 9, 9, 9, 9), 1)
        self.refuses_at(SMALL, (True, 0, 0), 0)
        self.refuses_at(SMALL, (0, False, 0, 0), 1)
        self.refuses_at(SMALL, (1, 0, FORTY), 2)
        # ended ahead of the end
        self.refuses_at(SMALL, (), 0)
        self.refuses_at(SMALL, (1,), 1)
        self.refuses_at(SMALL, (1, 0), 2)
        self.refuses_at(SMALL, (0, 0, 0), 3)
        # behind the end
        self.refuses_at(SMALL, (1, 0, 0, 0), 3)
        self.refuses_at(SMALL, (1, 0, 0, None, 7), 3)
        self.refuses_at(SMALL, (0, 0, 0, 0, 0, 0), 4)
        # no tuple
        for thing in ANYTHING + [[1, 0, 0], [0, 0, 0, 0], "100"]:
            if type(thing) is not tuple:
                self.refuses_at(SMALL, thing, 0)

    def test_each_place_of_no_choices(self):
        for choices, at in (((2,), 0), ((0, 1), 1), ((1, 0, 0, 0), 3), ((1, 0, 0, 0, 0), 3), ((0, 0, 0, 0, None), 4),
                            ((0, True), 1), ([], 0), ([0], 0), (None, 0), (0, 0), ({}, 0), ("", 0)):
            self.same(self.refuses(NoWalk, spot_at, SMALL, MACHINE, choices).at, at)

    def test_of_anything(self):
        for thing in ANYTHING:
            self.assertIs(is_walk(SMALL, MACHINE, thing), False)
            self.assertIs(is_walk(of(), MACHINE, thing), repr(thing) == "(0,)")
            self.refuses(NoWalk, walked, SMALL, MACHINE, thing)


class WalksOfRuns(Case):
    def test_choices(self):
        code = of(("test", 0, 2), REST, ("get", 2, 1, 1), ("put", 0, 0, 1), ("put", 1, 1, 0),
                  asks=((0, 255), (0, 255)), arrays=(3, 5))
        for worths, walk in (
            ((0, 0), (1, 0, 0, 0, 0)), ((1, 0), (0, 0, 0, 0, 0, 0)), ((2, 2), (0, 0, 1, 1, 1, 0)),
            ((5, 4), (0, 0, 2, 1, 2, 0)), ((4, 9), (0, 0, 2, 0, 2, 0)), ((255, 255), (0, 0, 0, 0, 0, 0)),
        ):
            self.same(walk_of(code, MACHINE, worths), walk)
            self.assertIs(is_walk(code, MACHINE, walk), True)

    def test_a_test_of_the_next_row(self):
        code = of(("test", 0, 1), asks=((0, 1),))
        self.same(walk_of(code, MACHINE, (0,)), (1, 0))
        self.same(walk_of(code, MACHINE, (1,)), (0, 0))

    def test_a_run_takes_its_ticks_by_the_clock(self):
        for seed in range(150):
            picks = Picks(seed)
            code = picked_code(picks)
            machine = (1 + picks.below(4), 1 + picks.below(4), 1 + picks.below(4))
            for worths in all_inputs(code)[:4]:
                clock = Clock(code, machine, worths).go()
                walk = walk_of(code, machine, worths)
                told = walked(code, machine, walk)
                self.assertEqual([ticks for _, ticks in told], clock.ticks)
                self.same(ticks_of(code, machine, walk), clock.now)
                self.same(misses_of(code, machine, walk), clock.misses)
                self.assertEqual(tuple([spot[0] for spot, _ in told]), trace(code, worths))

    def test_of_an_input_that_is_none(self):
        for thing in ((2,), (), (0, 0), (True,), [0], None):
            self.refuses(NoInput, walk_of, SMALL, MACHINE, thing)


class Spots(Case):
    # Two loops of six rounds each: 36 rounds of 28 rows within.
    WIDE = of(("count", 6), ("count", 6), *[REST] * 27, ("again", 2), ("again", 1))
    TOO_WIDE = of(("count", 6), ("count", 6), *[("get", 0, 0, 1), ("put", 1, 1, 1)] * 8, ("again", 2), ("again", 1),
                  arrays=(6, 6))

    def test_all_that_walks_come_to(self):
        for seed in range(25):
            picks = Picks(seed)
            code = picked_code(picks, 5)
            machine = (1 + picks.below(3), 1 + picks.below(3), 1 + picks.below(3))
            found = {BEGIN: True}
            left = [BEGIN]
            while left:
                for one in steps_from(code, machine, left.pop()):
                    if one[4] is not None and one[4] not in found:
                        found[one[4]] = True
                        left.append(one[4])
            if len(found) <= 5000:
                told = spots_of(code, machine, most=5000)
                self.same(told, tuple(sorted(found)))
                self.assertTrue(all([is_spot(code, machine, spot) for spot in told]))

    def test_just_most_and_one_more(self):
        self.same(spots_of(SMALL, MACHINE, most=5), SPOTS)
        self.same(spots_of(SMALL, MACHINE, most=6), SPOTS)
        for most in (1, 2, 3, 4):
            self.refuses(TooWide, spots_of, SMALL, MACHINE, most=most)
        self.same(spots_of(of(), MACHINE, most=1), (BEGIN,))
        self.same(spots_of(of(), MACHINE, most=5000), (BEGIN,))
        self.refuses(TooWide, spots_of, of(REST), MACHINE, most=1)
        self.assertEqual(len(spots_of(of(REST), MACHINE, most=2)), 2)

    def test_most_where_it_is_left_out(self):
        self.same(MOST, 1000)
        many = len(spots_of(self.WIDE, MACHINE, most=5000))
        self.assertGreater(many, 1000)
        self.assertEqual(len(spots_of(self.WIDE, MACHINE, most=many)), many)
        self.refuses(TooWide, spots_of, self.WIDE, MACHINE, most=many - 1)
        self.refuses(TooWide, spots_of, self.WIDE, MACHINE)
        just = of(("count", 6), ("count", 6), *[REST] * 25, ("again", 2), ("again", 1))
        fewer = len(spots_of(just, MACHINE))
        self.assertLess(fewer, 1001)
        self.refuses(TooWide, spots_of, just, MACHINE, most=fewer - 1)

    def test_more_than_any_most(self):
        self.refuses(TooWide, spots_of, self.TOO_WIDE, (5, 4, 4), most=5000)

    def test_most_that_is_none(self):
        for most in (0, 5001, -1, True, False, None, "1", (1,), [1], {}, FORTY):
            self.refuses(NoMost, spots_of, SMALL, MACHINE, most=most)
            self.refuses(NoMost, spots_of, self.TOO_WIDE, MACHINE, most=most)
        with self.assertRaises(TypeError):
            spots_of(SMALL, MACHINE, 5)

    def test_the_end_of_a_loop_that_is_left_amid(self):
        code = of(("count", 2), ("test", 0, 4), REST, ("again", 1))
        told = spots_of(code, (1, 4, 1))
        self.assertEqual([spot[:2] for spot in told], [
            (0, ()), (1, (1,)), (1, (2,)), (2, (1,)), (2, (2,)), (3, (1,)), (3, (2,)), (4, ()), (4, ())])


class Refused(Case):
    def test_in_order(self):
        calls = [(is_walk, (None,)), (walked, (None,)), (spot_at, (None,)), (ticks_of, (None,)), (misses_of, (None,)),
                 (walk_of, (None,)), (spots_of, ())]
        for call, more in calls:
            for thing in ANYTHING:
                self.refuses(NoCode, call, thing, None, *more)
                if thing != (1, 2, 3):
                    self.refuses(NoMachine, call, SMALL, thing, *more)
        for thing in (None, (0, 1, 1), [3, 1, 1]):
            self.refuses(NoCode, spots_of, thing, thing, most=0)
            self.refuses(NoMachine, spots_of, SMALL, thing, most=0)

    def test_what_is_handed_in_stays(self):
        code, machine, walk = repr(SMALL), repr(MACHINE), (0, 0, 0, 0)
        for _ in range(2):
            self.same(spots_of(SMALL, MACHINE), SPOTS)
            self.same(ticks_of(SMALL, MACHINE, walk), 10)
        self.assertEqual((repr(SMALL), repr(MACHINE), walk), (code, machine, (0, 0, 0, 0)))


if __name__ == "__main__":
    unittest.main()
