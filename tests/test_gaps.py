import unittest

from pacebond.errors import NoCode, NoInput, NoMachine
from pacebond.machine.moods import BEGIN
from pacebond.machine.steps import step
from pacebond.machine.walks import misses_of, ticks_of, walk_of
from pacebond.wire.gaps import gaps_of
from tests.samples import ANYTHING, Case, Picks, all_inputs, picked_code, unlikely

END = ("end",)
REST = ("rest",)


def of(*rows, asks=(), many=3, arrays=(2, 2)):
    return (asks, many, 0, arrays, rows + (END,))


def by_steps(code, machine, worths):
    """The gaps, a sign for each miss and one for each of the run's own ticks written one behind another."""
    signs, spot = "", BEGIN
    for choice in walk_of(code, machine, worths):
        fetch, wait, cell, work, spot = step(code, machine, spot, choice)
        signs += "!" * (fetch != 0) + "." * wait + "!" * (cell != 0) + "." * work
    return tuple([len(gap) for gap in signs.split("!")])


class Gaps(Case):
    def test_a_row_s_miss_alone(self):
        # as nothing is near at first no run has fewer
        self.same(gaps_of(of(), (5, 1, 1), ()), (0, 1))
        self.same(gaps_of(of(REST), (5, 1, 1), ()), (0, 2))
        self.same(gaps_of(of(("go", 3), REST, REST), (20, 4, 1), ()), (0, 3))

    def test_rows_that_miss_and_rows_that_hit(self):
        self.same(gaps_of(of(REST, REST, REST, REST), (5, 1, 1), ()), (0, 2, 2, 1))
        self.same(gaps_of(of(REST, REST, REST, REST), (5, 4, 1), ()), (0, 4, 1))
        # a jump's second tick is its own, too
        self.same(gaps_of(of(("go", 2), REST, REST), (5, 1, 1), ()), (0, 2, 2))

    def test_a_cell_s_miss(self):
        # in row 1, whose line is near
        self.same(gaps_of(of(REST, ("get", 0, 0, 1), REST), (5, 4, 1), ()), (0, 1, 3))
        self.same(gaps_of(of(REST, ("put", 0, 0, 1), REST), (5, 4, 1), ()), (0, 1, 3))
        # near the second time
        self.same(gaps_of(of(REST, ("get", 0, 0, 1), ("put", 0, 1, 1)), (5, 4, 1), ()), (0, 1, 3))
        self.same(gaps_of(of(REST, ("get", 0, 0, 1), ("put", 1, 1, 1)), (5, 4, 1), ()), (0, 1, 1, 2))

    def test_both_in_one_step(self):
        self.same(gaps_of(of(("get", 0, 0, 1)), (5, 4, 1), ()), (0, 0, 2))

    def test_a_wait_between(self):
        # row 1 waits two ticks for the product ahead of its cell's miss
        self.same(gaps_of(of(("*", 1, 0, 0), ("get", 0, 0, 1)), (5, 4, 1), ()), (0, 3, 2))
        # of which its own line's miss takes some
        self.same(gaps_of(of(REST, ("*", 1, 0, 0), ("get", 0, 0, 1)), (1, 1, 1), ()), (0, 2, 1, 2))
        self.same(gaps_of(of(REST, ("*", 1, 0, 0), ("get", 0, 0, 1)), (2, 1, 1), ()), (0, 2, 0, 2))
        # a wait where nothing misses
        self.same(gaps_of(of(("*", 1, 0, 0), ("+", 1, 1, 1)), (5, 4, 1), ()), (0, 5))

    def test_what_an_input_does(self):
        code = of(("test", 0, 3), REST, REST, asks=((0, 1),))
        self.same(gaps_of(code, (3, 1, 1), (0,)), (0, 2, 1))
        self.same(gaps_of(code, (3, 1, 1), (1,)), (0, 2, 2))

    def test_together_they_are_its_ticks(self):
        for seed in range(200):
            picks = Picks(seed)
            code = picked_code(picks, 20)
            machine = (1 + picks.below(5), 1 + picks.below(4), 1 + picks.below(4))
            for worths in all_inputs(code):
                told, walk = gaps_of(code, machine, worths), walk_of(code, machine, worths)
                self.same(told, by_steps(code, machine, worths))
                self.assertEqual(len(told) - 1, misses_of(code, machine, walk))
                self.assertEqual(sum(told) + machine[0] * (len(told) - 1), ticks_of(code, machine, walk))
                self.assertEqual(told[0], 0)


class Refused(Case):
    def test_in_its_order(self):
        code = of(REST, asks=((2, 5), (0, 1)))
        for thing in ANYTHING + unlikely(code):
            self.refuses(NoCode, gaps_of, thing, None, None)
        for thing in ANYTHING:
            if thing != (1, 2, 3):
                self.refuses(NoMachine, gaps_of, code, thing, None)
            self.refuses(NoInput, gaps_of, code, (3, 1, 1), thing)
        for thing in ((2,), (2, 0, 0), (1, 0), (6, 0), (2, 2), (2, -1), [2, 0], (2, False), (True, 0)):
            self.refuses(NoInput, gaps_of, code, (3, 1, 1), thing)


if __name__ == "__main__":
    unittest.main()
