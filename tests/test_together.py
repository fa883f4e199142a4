import unittest

from pacebond.bounds.heights import heights_of
from pacebond.bounds.longest import bound_of
from pacebond.errors import NoCode, NoMachine, NoMost, NoNumber, NoWorks, TooWide
from pacebond.machine.moods import BEGIN, EMPTY, is_spot
from pacebond.machine.steps import steps_from
from pacebond.machine.walks import misses_of, spots_of, ticks_of, walk_of, walked
from pacebond.wire.gaps import gaps_of
from pacebond.wire.together import is_works, joined_heights, joined_of, played, shows_joined
from tests.samples import ANYTHING, Case, Picks, all_inputs, all_walks, picked_code, unlikely, warped

END = ("end",)
REST = ("rest",)
MACHINE = (5, 1, 1)


def of(*rows, asks=(), many=3, arrays=(3,)):
    return (asks, many, 0, arrays, rows + (END,))


ONE = of()                               # gaps 0, 1
TWO = of(REST, REST)                     # gaps 0, 2, 1
ASKS = of(("test", 0, 3), REST, REST, REST, asks=((0, 1),))
LATEST = 10 ** 6


def by_moments(machine, works):
    """What is played, moment by moment."""
    gaps = [list(gaps_of(code, machine, worths)) for code, worths, _ in works]
    due = [work[2] + own.pop(0) for work, own in zip(works, gaps)]
    asked, ends = [None] * len(works), [None] * len(works)
    services, on_wire, until, turn, now = [], None, 0, 0, 0
    while None in ends:
        if on_wire is not None and until == now:
            due[on_wire], on_wire = now + gaps[on_wire].pop(0), None
        for at in range(len(works)):
            if due[at] == now:
                due[at] = None
                if gaps[at]:
                    asked[at] = now
                else:
                    ends[at] = now
        for at in [(turn + more) % len(works) for more in range(len(works))]:
            if on_wire is None and asked[at] is not None:
                services.append((at, asked[at], now))
                on_wire, until, asked[at], turn = at, now + machine[0], None, (at + 1) % len(works)
        now += 1
    return (tuple(services), tuple(ends))


class Works(Case):
    def test_how_many(self):
        self.assertIs(is_works(()), False)
        for many in range(1, 7):
            self.assertIs(is_works(((ONE, (), 0),) * many), many <= 4)

    def test_starts(self):
        for start in (0, 1, 7, LATEST):
            self.assertIs(is_works(((ONE, (), start),)), True)
        for start in (-1, LATEST + 1, 10 ** 39, True, False, None, "0", (0,), [0]):
            self.assertIs(is_works(((ONE, (), start),)), False)
            self.assertIs(is_works(((ONE, (), 0), (ONE, (), start))), False)

    def test_inputs(self):
        for worths, wanted in (((0,), True), ((1,), True), ((2,), False), ((), False), ((0, 0), False), ([0], False), ((True,), False)):
            self.assertIs(is_works(((ASKS, worths, 0),)), wanted)

    def test_anything(self):
        work = (ASKS, (1,), 5)
        for thing in ANYTHING:
            self.assertIs(is_works(thing), False)
            self.assertIs(is_works((work, thing)), False)
        for thing in unlikely((work, (TWO, (), 1))) + [work, [work], (work + (0,),), (work[:2],), ((),), ((work,),)]:
            self.assertIs(is_works(thing), False)
        for thing in warped((work,)):
            if is_works(thing):
                played(MACHINE, thing)


class Played(Case):
    def test_one_by_itself(self):
        self.same(played(MACHINE, ((ONE, (), 0),)), (((0, 0, 0),), (6,)))
        self.same(played(MACHINE, ((TWO, (), 7),)), (((0, 7, 7), (0, 14, 14)), (20,)))
        for code, worths in ((ONE, ()), (TWO, ()), (ASKS, (0,)), (ASKS, (1,))):
            for start in (0, 3, LATEST):
                services, ends = played(MACHINE, ((code, worths, start),))
                self.assertTrue(all([asked == served for _, asked, served in services]))
                self.same(ends, (start + ticks_of(code, MACHINE, walk_of(code, MACHINE, worths)),))

    def test_two_that_ask_at_the_same_moment(self):
        # 0 is served from 0 to 5, 1 from 5 to 10
        self.same(played(MACHINE, ((ONE, (), 0), (ONE, (), 0))), (((0, 0, 0), (1, 0, 5)), (6, 11)))
        # each asks anew two ticks behind its service's end, when the other one is served
        self.same(played(MACHINE, ((TWO, (), 0), (TWO, (), 0))),
                  (((0, 0, 0), (1, 0, 5), (0, 7, 10), (1, 12, 15)), (16, 21)))

    def test_four(self):
        services, ends = played(MACHINE, ((TWO, (), 0),) * 4)
        self.same(services, ((0, 0, 0), (1, 0, 5), (2, 0, 10), (3, 0, 15), (0, 7, 20), (1, 12, 25), (2, 17, 30), (3, 22, 35)))
        self.same(ends, (26, 31, 36, 41))

    def test_who_is_next_in_the_round(self):
        # 1 comes first, then 2, which is behind it, though 0 asked earlier than 2
        self.same(played(MACHINE, ((ONE, (), 2), (ONE, (), 0), (ONE, (), 3))),
                  (((1, 0, 0), (2, 3, 5), (0, 2, 10)), (16, 6, 11)))
        # behind the greatest comes 0, though 1 asked earlier
        self.same(played(MACHINE, ((ONE, (), 2), (ONE, (), 1), (ONE, (), 0))),
                  (((2, 0, 0), (0, 2, 5), (1, 1, 10)), (11, 16, 6)))
        # one that asks anew at once as it was served comes behind all others
        code = of(("get", 0, 0, 1))
        self.same(gaps_of(code, MACHINE, ()), (0, 0, 2))
        self.same(played(MACHINE, ((ONE, (), 4), (code, (), 0), (ONE, (), 5))),
                  (((1, 0, 0), (2, 5, 5), (0, 4, 10), (1, 5, 15)), (16, 22, 11)))

    def test_who_asks_just_as_the_wire_is_free(self):
        self.same(played(MACHINE, ((ONE, (), 0), (ONE, (), 5), (ONE, (), 6))),
                  (((0, 0, 0), (1, 5, 5), (2, 6, 10)), (6, 11, 16)))
        self.same(played(MACHINE, ((ONE, (), 5), (ONE, (), 0), (ONE, (), 6))),
                  (((1, 0, 0), (0, 5, 5), (2, 6, 10)), (11, 6, 16)))

    def test_at_first_from_0_on(self):
        self.same(played(MACHINE, ((ONE, (), 9), (ONE, (), 9), (ONE, (), 9)))[0], ((0, 9, 9), (1, 9, 14), (2, 9, 19)))

    def test_starts_far_apart(self):
        self.same(played(MACHINE, ((TWO, (), LATEST), (TWO, (), 0), (ONE, (), 500))),
                  (((1, 0, 0), (1, 7, 7), (2, 500, 500), (0, LATEST, LATEST), (0, LATEST + 7, LATEST + 7)),
                   (LATEST + 13, 13, 506)))

    def test_moment_by_moment(self):
        waited = 0
        for seed in range(250):
            picks = Picks(seed)
            machine = (1 + picks.below(6), 1 + picks.below(4), 1 + picks.below(4))
            works = []
            for _ in range(1 + picks.below(4)):
                code = picked_code(picks, 10)
                works.append((code, picks.one(all_inputs(code)), picks.below(picks.one([1, 4, 40]))))
            works = tuple(works)
            told = played(machine, works)
            self.same(told, by_moments(machine, works))
            services, ends = told
            for _, asked, served in services:
                self.assertLessEqual(served - asked, machine[0] * (len(works) - 1))
                waited += served > asked
            for at, (code, worths, start) in enumerate(works):
                own = ticks_of(code, machine, walk_of(code, machine, worths))
                self.assertEqual(ends[at], start + own + sum([served - asked for one, asked, served in services if one == at]))
                self.assertEqual(len([1 for one, _, _ in services if one == at]),
                                 misses_of(code, machine, walk_of(code, machine, worths)))
                try:
                    self.assertLessEqual(ends[at] - start, joined_of(code, machine, len(works) - 1))
                except TooWide:
                    continue
        self.assertGreater(waited, 300)

    def test_refused(self):
        works = ((ONE, (), 0),)
        for thing in ANYTHING:
            if thing != (1, 2, 3):
                self.refuses(NoMachine, played, thing, None)
                self.refuses(NoMachine, played, thing, works)
            self.refuses(NoWorks, played, MACHINE, thing)
        for thing in ((), works * 5, list(works), ((ONE, ()),), ((ONE, (), 0, 0),), ((ONE, (0,), 0),), ((ONE, (), True),),
                      ((ONE, (), -1),), ((ONE, (), LATEST + 1),), (None,), ONE, ((None, (), 0),)):
            self.refuses(NoWorks, played, MACHINE, thing)


# Four walks, which miss unlike many times.
JOINED = of(("test", 0, 3), REST, ("get", 1, 0, 0), ("put", 0, 1, 1), asks=((0, 1),))


def lengthened(code, machine, walk, others):
    return ticks_of(code, machine, walk) + machine[0] * others * misses_of(code, machine, walk)


class Joined(Case):
    def test_nobody_beside(self):
        self.same(joined_of(JOINED, MACHINE, 0), bound_of(JOINED, MACHINE))
        self.same(joined_heights(JOINED, MACHINE, 0), heights_of(JOINED, MACHINE))

    def test_one_to_three(self):
        # a row's miss, a cell's, and the line of the rows behind it
        code = of(("get", 0, 0, 1), REST)
        self.same(gaps_of(code, MACHINE, ()), (0, 0, 2, 1))
        for others in range(4):
            self.same(joined_of(code, MACHINE, others), 18 + 15 * others)
        walks = all_walks(JOINED, MACHINE)
        for others in range(4):
            self.same(joined_of(JOINED, MACHINE, others), max([lengthened(JOINED, MACHINE, walk, others) for walk in walks]))

    def test_another_walk_is_longest(self):
        # by itself the way by the rests takes longer, with others beside the one by the gos, which misses twice more
        gos = [row for at in (18, 22, 26, 30, 34) for row in (("go", at), REST, REST, REST)]
        code = of(("test", 0, 14), *[REST] * 12, ("go", 34), *gos, asks=((0, 1),))
        machine, rests, others_way = (1, 4, 1), (0,) * 15, (1,) + (0,) * 6
        self.same([misses_of(code, machine, walk) for walk in (rests, others_way)], [5, 7])
        self.same([ticks_of(code, machine, walk) for walk in (rests, others_way)], [21, 20])
        self.same([joined_of(code, machine, others) for others in range(4)], [21, 27, 34, 41])
        for others in range(4):
            self.same(joined_of(code, machine, others),
                      max([lengthened(code, machine, walk, others) for walk in (rests, others_way)]))

    def test_what_is_coming_is_as_by_itself(self):
        # the row's miss takes its own ticks off what is coming, not those of others
        code = of(REST, ("*", 1, 0, 0), ("+", 1, 1, 1))
        self.same(bound_of(code, (1, 1, 1)), 1 + 1 + 1 + 1 + 1 + 1 + 1)
        self.same(joined_of(code, (1, 1, 1), 3), 7 + 2 * 3)

    def test_all_walks(self):
        found = 0
        for seed in range(150):
            picks = Picks(seed)
            code = picked_code(picks, 8)
            machine = (1 + picks.below(5), 1 + picks.below(4), 1 + picks.below(4))
            try:
                if len(spots_of(code, machine)) > 60:
                    continue
            except TooWide:
                continue
            walks = all_walks(code, machine)
            if len(walks) > 200:
                continue
            found += 1
            for others in range(4):
                told = joined_heights(code, machine, others)
                heights = {}
                for walk in walks:
                    left = 0
                    for (spot, _), choice in reversed(list(zip(walked(code, machine, walk), walk))):
                        one = steps_from(code, machine, spot)[choice]
                        left += sum(one[:4]) + machine[0] * others * ((one[0] != 0) + (one[2] != 0))
                        heights[spot] = max(heights.get(spot, 0), left)
                self.same(told, tuple(sorted(heights.items())))
                self.same(joined_of(code, machine, others), heights[BEGIN])
                self.assertIs(shows_joined(code, machine, others, told), True)
        self.assertGreater(found, 60)


class Shown(Case):
    def by_steps(self, code, others, thing):
        machine = (1, 1, 1)
        if type(thing) is not tuple or not all([type(one) is tuple and len(one) == 2 for one in thing]):
            return False
        if not all([is_spot(code, machine, spot) and type(number) is int and number >= 0 for spot, number in thing]):
            return False
        numbers = dict(thing)
        if sorted(numbers.items()) != list(thing) or BEGIN not in numbers:
            return False
        numbers[None] = 0
        for spot, number in thing:
            for one in steps_from(code, machine, spot):
                more = others * ((one[0] != 0) + (one[2] != 0))
                if one[4] not in numbers or number < sum(one[:4]) + more + numbers[one[4]]:
                    return False
        return True

    def test_raised_and_lowered(self):
        for others in range(4):
            heights = joined_heights(JOINED, MACHINE, others)
            self.assertIs(shows_joined(JOINED, MACHINE, others, heights), True)
            for more in (1, 100):
                raised = tuple([(spot, number + more) for spot, number in heights])
                self.assertIs(shows_joined(JOINED, MACHINE, others, raised), True)
            for at, (spot, number) in enumerate(heights):
                lowered = heights[:at] + ((spot, number - 1),) + heights[at + 1:]
                self.assertIs(shows_joined(JOINED, MACHINE, others, lowered), False)
                self.assertIs(shows_joined(JOINED, MACHINE, others, heights[:at] + heights[at + 1:]), False)

    def test_of_another_number_of_others(self):
        for others in range(4):
            for more in range(4):
                heights = joined_heights(JOINED, MACHINE, more)
                # those of more others do, as nothing need be least
                self.assertIs(shows_joined(JOINED, MACHINE, others, heights), more >= others)

    def test_a_spot_beside(self):
        heights = joined_heights(JOINED, MACHINE, 2)
        for number, wanted in ((16, True), (15, False)):
            thing = tuple(sorted(heights + (((4, (), EMPTY), number),)))
            self.assertIs(shows_joined(JOINED, MACHINE, 2, thing), wanted)

    def test_anything(self):
        heights = joined_heights(JOINED, MACHINE, 1)
        for thing in ANYTHING + unlikely(heights) + [heights[::-1], (heights,), list(heights)]:
            self.assertIs(shows_joined(JOINED, MACHINE, 1, thing), False)
        heights = joined_heights(TWO, (1, 1, 1), 3)
        for thing in warped(heights):
            self.assertIs(shows_joined(TWO, (1, 1, 1), 3, thing), self.by_steps(TWO, 3, thing))


class Refused(Case):
    CALLS = (joined_of, joined_heights)
    WIDE = of(("count", 6), ("count", 6), ("get", 0, 0, 0), *[REST] * 40, ("again", 2), ("again", 1), arrays=(1,))

    def test_in_its_order(self):
        for thing in ANYTHING + unlikely(JOINED):
            for call in self.CALLS:
                self.refuses(NoCode, call, thing, None, None, most=0)
            self.refuses(NoCode, shows_joined, thing, None, None, None)
        for thing in ANYTHING:
            if thing != (1, 2, 3):
                for call in self.CALLS:
                    self.refuses(NoMachine, call, self.WIDE, thing, None, most=0)
                self.refuses(NoMachine, shows_joined, self.WIDE, thing, None, None)
            if not (type(thing) is int and 1 <= thing <= 5000):
                for call in self.CALLS:
                    self.refuses(NoMost, call, self.WIDE, MACHINE, 3, most=thing)
        for call in self.CALLS:
            self.refuses(TooWide, call, self.WIDE, MACHINE, 0)

    def test_no_number(self):
        for thing in ANYTHING + [4, 5]:
            if type(thing) is int and 0 <= thing <= 3:
                continue
            for call in self.CALLS:
                self.same(self.refuses(NoNumber, call, self.WIDE, MACHINE, thing, most=0).number, thing)
            self.same(self.refuses(NoNumber, shows_joined, self.WIDE, MACHINE, thing, None).number, thing)

    def test_just_as_many_spots_and_one_fewer(self):
        many = len(spots_of(JOINED, MACHINE))
        for call in self.CALLS:
            self.same(call(JOINED, MACHINE, 2, most=many), call(JOINED, MACHINE, 2))
            self.refuses(TooWide, call, JOINED, MACHINE, 2, most=many - 1)

    def test_what_is_shown_is_never_too_wide(self):
        heights = joined_heights(self.WIDE, MACHINE, 2, most=5000)
        self.assertIs(shows_joined(self.WIDE, MACHINE, 2, heights), True)


if __name__ == "__main__":
    unittest.main()
