import unittest

from pacebond.bounds.heights import heights_of
from pacebond.bounds.longest import bound_of, longest
from pacebond.bounds.worst import sharp, shows_sharp, slack_of, slower, spread_of, worst_of
from pacebond.errors import NoCode, NoMachine, NoMost, TooWide, Unlike
from pacebond.machine.moods import BEGIN, EMPTY
from pacebond.machine.walks import spots_of, ticks_of, walk_of
from tests.samples import ANYTHING, Case, Picks, all_inputs, picked_code, put_at, unlikely, warped

END = ("end",)
REST = ("rest",)
MACHINE = (3, 4, 1)


def of(*rows, asks=(), many=3, arrays=()):
    return (asks, many, 0, arrays, rows + (END,))


# Of 0 to 4 only 2 goes through the first rests, and 3 through the others.
MIDDLE = of(
    ("set", 1, 2),       # 0
    ("=", 2, 0, 1),      # 1
    ("test", 2, 6),      # 2
    REST,                # 3
    REST,                # 4
    REST,                # 5
    ("set", 1, 3),       # 6
    ("=", 2, 0, 1),      # 7
    ("test", 2, 13),     # 8
    REST,                # 9
    REST,                # 10
    REST,                # 11
    REST,                # 12
    asks=((0, 4),))

# No input goes through both the first rests and the others, but a walk does.
SLACK = of(("test", 0, 3), REST, REST, ("=", 1, 0, 2), ("test", 1, 7), REST, REST, asks=((0, 3),))

# 1 and 3 go through the rests.
SHARP = of(
    ("+", 1, 0, 0),      # 0: 0 2 4 6
    ("set", 2, 2),       # 1
    ("=", 1, 1, 2),      # 2: 1 of 1
    ("set", 2, 3),       # 3
    ("=", 2, 0, 2),      # 4: 1 of 3
    ("+", 1, 1, 2),      # 5
    ("test", 1, 9),      # 6
    REST,                # 7
    REST,                # 8
    asks=((0, 3),))


def ticks_by_input(code, machine):
    return [(ticks_of(code, machine, walk_of(code, machine, worths)), worths) for worths in all_inputs(code)]


def moved(rows, more):
    return tuple([(spot, number + more) for spot, number in rows])


class Worst(Case):
    def test_neither_the_first_nor_the_last(self):
        # rows 0, 6, 13 miss where both jump; where 2 goes on 0, 4, 8, 13 do, and where 3 goes on 0, 6, 10
        self.same([ticks for ticks, _ in ticks_by_input(MIDDLE, MACHINE)], [18, 18, 23, 21, 18])
        self.same(worst_of(MIDDLE, MACHINE), (23, (2,)))

    def test_the_first_of_two_that_take_as_long(self):
        self.same(worst_of(SHARP, MACHINE), (ticks_of(SHARP, MACHINE, walk_of(SHARP, MACHINE, (3,))), (1,)))
        self.same(worst_of(of(REST, asks=((2, 5), (7, 9))), (5, 1, 1)), (7, (2, 7)))

    def test_without_asks(self):
        self.same(worst_of(of(), (4, 1, 1)), (5, ()))
        self.same(spread_of(of(), (4, 1, 1)), ((5, 1, ()),))

    def test_spread(self):
        self.same(spread_of(MIDDLE, MACHINE), ((18, 3, (0,)), (21, 1, (3,)), (23, 1, (2,))))
        told = spread_of(SHARP, MACHINE)
        self.same([(many, worths) for _, many, worths in told], [(2, (0,)), (2, (1,))])
        self.same(spread_of(of(REST, asks=((2, 5), (7, 9))), (5, 1, 1)), ((7, 12, (2, 7)),))

    def test_of_all_runs(self):
        for seed in range(120):
            picks = Picks(seed)
            code = picked_code(picks)
            machine = (1 + picks.below(4), 1 + picks.below(4), 1 + picks.below(4))
            by_input = ticks_by_input(code, machine)
            most = max([ticks for ticks, _ in by_input])
            self.same(worst_of(code, machine), (most, min([worths for ticks, worths in by_input if ticks == most])))
            spread = []
            for ticks in sorted({ticks for ticks, _ in by_input}):
                alike = [worths for one, worths in by_input if one == ticks]
                spread.append((ticks, len(alike), min(alike)))
            self.same(spread_of(code, machine), tuple(spread))


class Slack(Case):
    def test_slack(self):
        self.same(slack_of(SHARP, MACHINE), 0)
        self.same(slack_of(SLACK, MACHINE), 1)
        for seed in range(80):
            code = picked_code(Picks(seed))
            most = max([ticks for ticks, _ in ticks_by_input(code, MACHINE)])
            try:
                bound = bound_of(code, MACHINE)
            except TooWide:
                self.refuses(TooWide, slack_of, code, MACHINE)
                continue
            self.same(slack_of(code, MACHINE), bound - most)

    def test_sharp(self):
        self.same(sharp(SHARP, MACHINE), ("sharp", (1,), heights_of(SHARP, MACHINE)))
        word, worths, walk = sharp(SLACK, MACHINE)
        self.same((word, worths), ("slack", (0,)))
        self.assertEqual(ticks_of(SLACK, MACHINE, walk), bound_of(SLACK, MACHINE))
        for code in (SHARP, SLACK, MIDDLE, of()):
            self.assertIs(shows_sharp(code, MACHINE, sharp(code, MACHINE)), True)


class Shown(Case):
    def shown(self, code, *things):
        for thing in things:
            self.assertIs(shows_sharp(code, MACHINE, thing), True, thing)

    def not_shown(self, code, *things):
        for thing in things:
            self.assertIs(shows_sharp(code, MACHINE, thing), False, thing)

    def test_sharp_by_any_such_input(self):
        heights = heights_of(SHARP, MACHINE)
        self.shown(SHARP, ("sharp", (1,), heights), ("sharp", (3,), heights))
        self.not_shown(SHARP, ("sharp", (0,), heights), ("sharp", (2,), heights))
        self.not_shown(SHARP, *[("sharp", worths, heights) for worths in ((4,), (), (1, 1), [1], (True,), None, 1)])

    def test_sharp_by_any_such_heights(self):
        heights = heights_of(SHARP, MACHINE)
        last = (9, (), EMPTY)
        self.shown(SHARP, ("sharp", (1,), tuple(sorted(heights + ((last, 99),)))))
        self.not_shown(SHARP, ("sharp", (1,), tuple(sorted(heights + ((last, 3),)))))
        self.not_shown(SHARP, ("sharp", (1,), moved(heights, 1)), ("sharp", (1,), moved(heights, -1)))
        self.not_shown(SHARP, ("sharp", (1,), heights[1:]), ("sharp", (1,), ()), ("sharp", (1,), None))
        for at, (spot, number) in enumerate(heights):
            self.not_shown(SHARP, ("sharp", (1,), heights[:at] + ((spot, number - 1),) + heights[at + 1:]))

    def test_slack_by_any_such_input(self):
        walk = longest(SLACK, MACHINE)[1]
        by_input = ticks_by_input(SLACK, MACHINE)
        self.assertEqual([ticks for ticks, _ in by_input], [by_input[0][0]] * 4)
        self.shown(SLACK, *[("slack", worths, walk) for _, worths in by_input])
        self.not_shown(SLACK, *[("slack", worths, walk) for worths in ((4,), (), (0, 0), [0], (False,), None)])

    def test_slack_by_the_worst_input_alone(self):
        # no input goes through both, so the longest walk takes longer than the run of 2
        walk = longest(MIDDLE, MACHINE)[1]
        self.shown(MIDDLE, ("slack", (2,), walk))
        self.not_shown(MIDDLE, *[("slack", (worth,), walk) for worth in (0, 1, 3, 4)])
        runs = [walk_of(MIDDLE, MACHINE, (worth,)) for worth in (0, 2, 3)]
        self.not_shown(MIDDLE, *[("slack", (worth,), run) for worth in range(5) for run in runs])

    def test_slack_by_any_longer_walk(self):
        long_slack = of(*SLACK[4][:-1], ("test", 2, 11), REST, REST, REST, asks=((0, 3),))
        walks = [walk for walk in ((0, 0, 0, 0, 0, 0, 0, 1, 0), (0, 0, 0, 0, 0, 0, 0, 0, 0, 0, 0, 0))]
        worst = worst_of(long_slack, MACHINE)
        ticks = [ticks_of(long_slack, MACHINE, walk) for walk in walks]
        self.assertTrue(worst[0] < ticks[0] < ticks[1])
        self.shown(long_slack, *[("slack", worst[1], walk) for walk in walks])

    def test_no_walk(self):
        walk = longest(SLACK, MACHINE)[1]
        self.not_shown(SLACK, *[("slack", (0,), thing) for thing in (walk[:-1], walk + (0,), (), list(walk), None, (2,))])

    def test_just_one_of_the_two(self):
        for code in (SHARP, SLACK, MIDDLE):
            word, worths, _ = sharp(code, MACHINE)
            heights, walk = heights_of(code, MACHINE), longest(code, MACHINE)[1]
            for one in all_inputs(code):
                self.assertLessEqual(shows_sharp(code, MACHINE, ("sharp", one, heights)), word == "sharp")
                self.assertLessEqual(shows_sharp(code, MACHINE, ("slack", one, walk)), word == "slack")
            self.not_shown(code, ("sharp", worths, walk), ("slack", worths, heights))

    def test_the_words(self):
        for code in (SHARP, SLACK):
            paper = sharp(code, MACHINE)
            for word in ("", "Sharp", "slacks", "sharp ", "sure", "not", None, 0, ("sharp",)):
                self.not_shown(code, (word,) + paper[1:])

    def test_one_part_otherwise(self):
        for code in (SHARP, SLACK, MIDDLE):
            paper = sharp(code, MACHINE)
            self.not_shown(code, *unlikely(paper), paper[:2], paper + (0,), paper[1:], (), (paper,), list(paper))

    def test_of_anything(self):
        for thing in ANYTHING:
            self.not_shown(SHARP, thing)
            self.not_shown(of(), thing)
        paper = sharp(of(), MACHINE)
        self.same(paper, ("sharp", (), ((BEGIN, 4),)))
        for thing in warped(paper):
            if repr(thing) != repr(paper):
                self.not_shown(of(), thing)
        paper = sharp(SLACK, MACHINE)
        for part in ANYTHING:
            for at in (0, 1, 2):
                self.assertLessEqual(shows_sharp(SLACK, MACHINE, put_at(paper, (at,), part)), repr(part) == "(0,)")


class Slower(Case):
    ASKS = ((0, 2), (0, 1))

    def test_both_ways(self):
        # of 0 the one skips two rests, of others the other one
        one = of(("test", 0, 3), REST, REST, asks=self.ASKS)
        other = of(("=", 2, 0, 2), ("test", 2, 4), REST, REST, asks=self.ASKS)
        quick = of(("rest",), asks=self.ASKS)
        machine = (1, 4, 1)
        self.same(slower(quick, one, machine), (0, 0))
        self.same(slower(one, quick, machine), None)
        self.same(slower(one, other, machine), (0, 0))
        self.same(slower(other, one, machine), None)
        longer = of(("test", 0, 6), *[REST] * 5, asks=self.ASKS)
        plain = of(*[REST] * 6, asks=self.ASKS)
        self.same(slower(plain, of(("test", 0, 9), *[REST] * 8, asks=self.ASKS), machine), (1, 0))
        self.same(slower(of(("test", 1, 9), *[REST] * 8, asks=self.ASKS), plain, machine), (0, 0))
        self.same(slower(plain, of(("test", 1, 9), *[REST] * 8, asks=self.ASKS), machine), (0, 1))
        self.same(slower(plain, longer, machine), None)

    def test_none(self):
        for code in (SHARP, SLACK, MIDDLE, of()):
            self.same(slower(code, code, MACHINE), None)

    def test_of_all_runs(self):
        found = 0
        for seed in range(150):
            picks = Picks(seed)
            code, other = picked_code(picks), picked_code(picks)
            other = (code[0], max(other[1], len(code[0]))) + other[2:]
            pairs = zip(ticks_by_input(code, MACHINE), ticks_by_input(other, MACHINE))
            wanted = [worths for (ticks, worths), (more, _) in pairs if more > ticks]
            found += bool(wanted)
            self.same(slower(code, other, MACHINE), wanted[0] if wanted else None)
        self.assertTrue(20 < found < 130)

    def test_unlike(self):
        code = of(asks=((0, 2),))
        for asks in ((), ((0, 1),), ((1, 2),), ((0, 2), (0, 0))):
            self.refuses(Unlike, slower, code, of(asks=asks), MACHINE)
            self.refuses(Unlike, slower, of(asks=asks), code, None)
        self.refuses(Unlike, slower, of(asks=((0, 255), (0, 255))), code, None)

    def test_refused_in_order(self):
        for thing in ANYTHING:
            self.refuses(NoCode, slower, thing, None, None)
            self.refuses(NoCode, slower, thing, SHARP, MACHINE)
            self.refuses(NoCode, slower, SHARP, thing, None)
            if thing != (1, 2, 3):
                self.refuses(NoMachine, slower, SHARP, SLACK, thing)


class Refused(Case):
    JUST = of(asks=((0, 19), (1, 20)))
    MORE = of(asks=((0, 200), (0, 1)))
    MOST = of(asks=((0, 255), (0, 255), (0, 255)))

    def test_just_as_many_inputs_as_may_be(self):
        self.same(worst_of(self.JUST, MACHINE), (4, (0, 1)))
        self.same(spread_of(self.JUST, MACHINE), ((4, 400, (0, 1)),))
        self.same(slower(self.JUST, self.JUST, MACHINE), None)
        self.same(slack_of(self.JUST, MACHINE), 0)
        self.same(sharp(self.JUST, MACHINE), ("sharp", (0, 1), ((BEGIN, 4),)))
        self.assertIs(shows_sharp(self.JUST, MACHINE, ("sharp", (3, 7), ((BEGIN, 4),))), True)
        for code in (self.MORE, self.MOST):
            for call in (worst_of, spread_of, slack_of, sharp):
                self.refuses(TooWide, call, code, MACHINE)
            self.refuses(TooWide, slower, code, code, MACHINE)
            self.refuses(TooWide, shows_sharp, code, MACHINE, ("sharp", (0, 0), ((BEGIN, 4),)))
            self.refuses(TooWide, shows_sharp, code, MACHINE, None)

    def test_just_as_many_spots_and_one_fewer(self):
        for code in (SHARP, SLACK, MIDDLE):
            many = len(spots_of(code, MACHINE))
            paper = sharp(code, MACHINE)
            self.same(slack_of(code, MACHINE, most=many), slack_of(code, MACHINE))
            self.same(sharp(code, MACHINE, most=many), paper)
            self.assertIs(shows_sharp(code, MACHINE, paper, most=many), True)
            self.refuses(TooWide, slack_of, code, MACHINE, most=many - 1)
            self.refuses(TooWide, sharp, code, MACHINE, most=many - 1)
            for thing in (paper, None, (), "slack"):
                self.refuses(TooWide, shows_sharp, code, MACHINE, thing, most=many - 1)

    def test_runs_are_never_of_too_many_spots(self):
        wide = of(("count", 6), ("count", 6), *[REST] * 40, ("again", 2), ("again", 1), asks=((0, 1),))
        self.refuses(TooWide, slack_of, wide, MACHINE)
        self.refuses(TooWide, sharp, wide, MACHINE)
        self.refuses(TooWide, shows_sharp, wide, MACHINE, None)
        self.assertGreater(worst_of(wide, MACHINE)[0], 36 * 40)
        self.assertEqual(len(spread_of(wide, MACHINE)), 1)
        self.same(slower(wide, wide, MACHINE), None)
        self.same(slack_of(wide, MACHINE, most=5000), 0)

    def test_in_order(self):
        for thing in ANYTHING:
            for call, more in ((worst_of, {}), (spread_of, {}), (slack_of, {"most": 0}), (sharp, {"most": 0})):
                self.refuses(NoCode, call, thing, None, **more)
                if thing != (1, 2, 3):
                    self.refuses(NoMachine, call, self.MOST, thing, **more)
            self.refuses(NoCode, shows_sharp, thing, None, None, most=0)
            if thing != (1, 2, 3):
                self.refuses(NoMachine, shows_sharp, self.MOST, thing, None, most=0)
            if not (type(thing) is int and 1 <= thing <= 5000):
                self.refuses(NoMost, slack_of, self.MOST, MACHINE, most=thing)
                self.refuses(NoMost, sharp, self.MOST, MACHINE, most=thing)
                self.refuses(NoMost, shows_sharp, self.MOST, MACHINE, None, most=thing)


if __name__ == "__main__":
    unittest.main()
