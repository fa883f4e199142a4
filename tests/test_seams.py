import unittest

from pacebond.bounds.heights import heights_of, shows_heights
from pacebond.bounds.longest import bound_of, longest
from pacebond.codes.codes import around
from pacebond.codes.runs import trace
from pacebond.cuts.seams import piece_bound, piece_heights, piece_ticks, seams_of, shows_piece
from pacebond.errors import NoCode, NoMachine, NoMost, NoSeam, TooWide
from pacebond.machine.moods import EMPTY, is_spot
from pacebond.machine.steps import steps_from
from pacebond.machine.walks import spots_of, ticks_of, walk_of
from tests.samples import ANYTHING, Case, FORTY, Picks, all_inputs, all_walks, picked_code, piece_walks, unlikely, warped

END = ("end",)
REST = ("rest",)
MACHINE = (3, 2, 1)


def of(*rows, asks=((0, 1),), many=3, arrays=(3,)):
    return (asks, many, 0, arrays, rows + (END,))


# Seams are 0, 1, 4, 5, 8, 9.
CODE = of(
    ("set", 1, 1),       # 0
    ("test", 0, 4),      # 1
    ("*", 1, 0, 0),      # 2
    ("get", 2, 0, 1),    # 3
    REST,                # 4
    ("count", 2),        # 5
    ("+", 2, 2, 1),      # 6
    ("again", 6))        # 7


def least(code, machine, seam, other):
    """The least heights of a piece by all of its walks."""
    heights = {}
    for _, told in piece_walks(code, machine, seam, other):
        for at, (spot, _) in enumerate(told):
            heights[spot] = max(heights.get(spot, 0), sum([ticks for _, ticks in told[at:]]))
    return tuple(sorted(heights.items()))


class Seams(Case):
    def seams(self, rows, *wanted):
        self.same(seams_of(of(*rows)), wanted)

    def test_no_loops(self):
        self.seams((), 0, 1)
        self.seams((REST,), 0, 1, 2)
        self.seams((REST, ("set", 0, 1), ("get", 1, 0, 1)), 0, 1, 2, 3, 4)
        self.same(seams_of(of(*[REST] * 59)), tuple(range(61)))

    def test_loops(self):
        # a count may be one, and the row behind an again; neither the rows between nor the again
        self.seams((REST, ("count", 2), REST, ("again", 2), REST), 0, 1, 4, 5, 6)
        self.seams((("count", 2), ("again", 1)), 0, 2, 3)
        self.seams((("count", 1), REST, ("again", 1), ("count", 2), ("again", 4)), 0, 3, 5, 6)
        self.seams((REST, ("count", 2), ("count", 3), REST, ("again", 3), ("again", 2), REST), 0, 1, 6, 7, 8)

    def test_jumps(self):
        # not the rows between, but where it goes and where it stands
        self.seams((REST, ("test", 0, 4), REST, REST, REST), 0, 1, 4, 5, 6)
        self.seams((REST, ("go", 4), REST, REST, REST), 0, 1, 4, 5, 6)
        # to the next row it passes over none
        self.seams((("test", 0, 1), ("go", 2)), 0, 1, 2, 3)
        self.seams((("test", 0, 3), REST, ("test", 0, 4), REST), 0, 4, 5)
        self.seams((("test", 0, 3), REST, REST), 0, 3, 4)
        # out of a loop, over what stands behind it
        self.seams((("count", 2), ("test", 0, 5), ("again", 1), REST, REST), 0, 5, 6)
        # of a row that isn't come to, too
        self.seams((("go", 3), ("go", 4), REST, REST), 0, 4, 5)

    def test_row_by_row(self):
        for seed in range(200):
            code = picked_code(Picks(seed), 25)
            rows = code[4]
            jumps = [(at, row[-1]) for at, row in enumerate(rows) if row[0] in ("test", "go")]
            inner = [at for at in range(1, len(rows))
                     if not around(code, at) and not any([at in range(row + 1, to) for row, to in jumps])]
            self.same(seams_of(code), tuple([0] + inner + [len(rows)]))
            for worths in all_inputs(code):
                came = trace(code, worths)
                for seam in inner:
                    self.assertEqual(came.count(seam), 1)


class Pieces(Case):
    def test_the_whole_code(self):
        many = len(CODE[4])
        self.same(piece_bound(CODE, MACHINE, 0, many), bound_of(CODE, MACHINE))
        self.same(piece_heights(CODE, MACHINE, 0, many), heights_of(CODE, MACHINE))
        for walk in all_walks(CODE, MACHINE):
            self.same(piece_ticks(CODE, MACHINE, 0, many, walk), ticks_of(CODE, MACHINE, walk))

    def test_one_row(self):
        self.same(piece_bound(of(), MACHINE, 0, 1), 4)
        self.same(piece_heights(of(), MACHINE, 0, 1), (((0, (), EMPTY), 4),))
        self.same(piece_bound(CODE, MACHINE, 0, 1), 4)
        self.same(piece_heights(CODE, MACHINE, 4, 5), (((4, (), EMPTY), 4),))
        self.same(piece_ticks(CODE, MACHINE, 4, 5, (0,)), 4)
        # the end, which goes nowhere
        self.same(piece_heights(CODE, MACHINE, 8, 9), (((8, (), EMPTY), 4),))

    def test_begun_with_nothing_near_or_coming(self):
        # row 1's line came with row 0; the product is waited for where the piece begins ahead of it alone
        code = of(("*", 1, 0, 0), ("+", 1, 1, 1), REST)
        self.same(piece_bound(code, (3, 2, 1), 0, 2), 7)
        self.same(piece_bound(code, (3, 2, 1), 1, 2), 4)
        self.same(piece_bound(code, (3, 2, 1), 0, 1), 4)

    def test_a_row_that_jumps_to_the_seam(self):
        # two ticks of work, as it isn't the next row
        code = of(("go", 2), REST, REST)
        self.same(piece_heights(code, MACHINE, 0, 2), (((0, (), EMPTY), 5),))

    def test_loops_within_a_piece(self):
        begin = (5, (), EMPTY)
        told = piece_heights(CODE, MACHINE, 5, 8)
        self.same(told, least(CODE, MACHINE, 5, 8))
        self.same([spot[:2] for spot, _ in told], [(5, ()), (6, (1,)), (6, (2,)), (7, (1,)), (7, (2,))])
        self.same(told[0][0], begin)
        self.same(piece_bound(CODE, MACHINE, 5, 8), told[0][1])

    def test_all_walks(self):
        found = 0
        for seed in range(120):
            picks = Picks(seed)
            code = picked_code(picks, 8)
            machine = (1 + picks.below(4), 1 + picks.below(4), 1 + picks.below(3))
            seams = seams_of(code)
            for seam in seams:
                for other in seams:
                    if seam >= other:
                        continue
                    try:
                        told = piece_heights(code, machine, seam, other, most=150)
                    except TooWide:
                        continue
                    walks = piece_walks(code, machine, seam, other)
                    if len(walks) > 300:
                        continue
                    found += 1
                    self.same(told, least(code, machine, seam, other))
                    bound = max([sum([ticks for _, ticks in rows]) for _, rows in walks])
                    self.same(piece_bound(code, machine, seam, other, most=150), bound)
                    self.assertIs(shows_piece(code, machine, seam, other, told), True)
                    for walk, rows in walks:
                        self.same(piece_ticks(code, machine, seam, other, walk), sum([ticks for _, ticks in rows]))
        self.assertGreater(found, 400)

    def test_a_longer_piece_takes_longer(self):
        for seed in range(60):
            code = picked_code(Picks(seed), 10)
            seams = seams_of(code)
            try:
                bounds = [piece_bound(code, MACHINE, 0, other) for other in seams[1:]]
            except TooWide:
                continue
            self.assertEqual(bounds, sorted(set(bounds)))


class Shown(Case):
    def shown(self, seam, other, thing, code=CODE):
        return self.truth(shows_piece(code, MACHINE, seam, other, thing))

    def by_steps(self, seam, other, thing, code=CODE):
        """Whether it is heights of the piece, by single steps."""
        if type(thing) is not tuple or not all([type(one) is tuple and len(one) == 2 for one in thing]):
            return False
        if not all([is_spot(code, MACHINE, spot) and type(number) is int and number >= 0 for spot, number in thing]):
            return False
        numbers = dict(thing)
        if sorted(numbers.items()) != list(thing) or (seam, (), EMPTY) not in numbers:
            return False
        for spot, number in thing:
            for one in steps_from(code, MACHINE, spot):
                ends = one[4] is None or one[4][0] == other
                if not ends and one[4] not in numbers:
                    return False
                if number < sum(one[:4]) + (0 if ends else numbers[one[4]]):
                    return False
        return True

    def test_raised_and_lowered(self):
        for seam, other in ((0, 1), (0, 4), (1, 5), (4, 9), (0, 9), (5, 8)):
            heights = piece_heights(CODE, MACHINE, seam, other)
            self.assertTrue(self.shown(seam, other, heights))
            self.assertTrue(self.shown(seam, other, tuple([(spot, number + 7) for spot, number in heights])))
            for at, (spot, number) in enumerate(heights):
                self.assertFalse(self.shown(seam, other, heights[:at] + ((spot, number - 1),) + heights[at + 1:]))
                raised = heights[:at] + ((spot, number + 1),) + heights[at + 1:]
                self.assertEqual(self.shown(seam, other, raised), self.by_steps(seam, other, raised))
                self.assertFalse(self.shown(seam, other, heights[:at] + heights[at + 1:]))
                self.assertFalse(self.shown(seam, other, heights[:at] + (heights[at],) + heights[at:]))
            begin = [at for at, (spot, _) in enumerate(heights) if spot == (seam, (), EMPTY)][0]
            self.assertTrue(self.shown(seam, other, heights[:begin] + ((heights[begin][0], 10 ** 39),) + heights[begin + 1:]))

    def test_of_another_piece(self):
        seams = seams_of(CODE)
        pairs = [(seam, other) for seam in seams for other in seams if seam < other]
        for seam, other in pairs:
            for one, two in pairs:
                heights = piece_heights(CODE, MACHINE, one, two)
                told = self.shown(seam, other, heights)
                self.assertEqual(told, self.by_steps(seam, other, heights))
                # those of the one to behind end do, as nothing need be least; from those of others steps lead out
                self.assertEqual(told, one == seam and two in (other, 9))
        self.assertTrue(self.shown(0, 9, heights_of(CODE, MACHINE)))
        self.assertFalse(self.shown(1, 9, heights_of(CODE, MACHINE)))

    def test_spots_beside(self):
        heights = piece_heights(CODE, MACHINE, 4, 8)
        # another spot from which steps lead to the seam at once, and one from which they lead elsewhere
        for spot, number, wanted in (((7, (1,), EMPTY), 4, True), ((7, (1,), EMPTY), 3, False), ((2, (), EMPTY), 99, False),
                                     ((8, (), EMPTY), 4, True), ((8, (), EMPTY), 3, False)):
            thing = tuple(sorted(heights + ((spot, number),)))
            self.assertEqual(self.shown(4, 8, thing), wanted)
            self.assertEqual(self.by_steps(4, 8, thing), wanted)

    def test_one_part_otherwise_and_of_anything(self):
        for seam, other in ((0, 1), (0, 4), (5, 8), (8, 9)):
            heights = piece_heights(CODE, MACHINE, seam, other)
            for thing in ANYTHING + unlikely(heights) + [heights[::-1] if len(heights) > 1 else None, (heights,), list(heights)]:
                self.assertFalse(self.shown(seam, other, thing))
        heights = piece_heights(CODE, MACHINE, 4, 5)
        for thing in warped(heights):
            self.assertEqual(self.shown(4, 5, thing), self.by_steps(4, 5, thing), thing)

    def test_ticks(self):
        for seam, other in ((0, 1), (0, 4), (1, 4), (1, 8), (4, 9)):
            walks = piece_walks(CODE, MACHINE, seam, other)
            for walk, told in walks:
                self.same(piece_ticks(CODE, MACHINE, seam, other, walk), sum([ticks for _, ticks in told]))
                for thing in (walk[:-1], walk + (0,), walk + (1,), list(walk), (walk,), walk[:-1] + (walk[-1] + 2,)):
                    self.same(piece_ticks(CODE, MACHINE, seam, other, thing), None)
                for at in range(len(walk)):
                    for choice in (0, 1, 2, -1, True, None, FORTY):
                        thing = walk[:at] + (choice,) + walk[at + 1:]
                        wanted = [sum([ticks for _, ticks in rows]) for one, rows in walks if repr(one) == repr(thing)]
                        self.same(piece_ticks(CODE, MACHINE, seam, other, thing), wanted[0] if wanted else None)
            for thing in ANYTHING:
                wanted = [sum([ticks for _, ticks in rows]) for one, rows in walks if repr(one) == repr(thing)]
                self.same(piece_ticks(CODE, MACHINE, seam, other, thing), wanted[0] if wanted else None)
        # a walk of another piece
        walk = longest(CODE, MACHINE)[1]
        self.same(piece_ticks(CODE, MACHINE, 0, 9, walk), bound_of(CODE, MACHINE))
        self.same(piece_ticks(CODE, MACHINE, 1, 9, walk), None)
        self.same(piece_ticks(CODE, MACHINE, 0, 8, walk), None)
        self.same(piece_ticks(CODE, MACHINE, 0, 8, walk[:-1]) is None, False)

    def test_a_run_goes_seam_by_seam(self):
        seams = seams_of(CODE)
        for worths in all_inputs(CODE):
            walk, came = walk_of(CODE, MACHINE, worths), trace(CODE, worths)
            for seam, other in zip(seams, seams[1:]):
                begun = came.index(seam)
                ended = came.index(other) if other in came else len(came)
                ticks = piece_ticks(CODE, MACHINE, seam, other, walk[begun:ended])
                self.assertLessEqual(ticks, piece_bound(CODE, MACHINE, seam, other))


class Refused(Case):
    TOLD = (piece_bound, piece_heights)
    SHOWS = (shows_piece, piece_ticks)
    WIDE = of(*[REST] * 3, ("count", 6), ("count", 6), ("get", 0, 0, 0), *[REST] * 35, ("again", 5), ("again", 4), REST,
              arrays=(1,))

    def test_no_code(self):
        for thing in ANYTHING + unlikely(CODE):
            self.refuses(NoCode, seams_of, thing)
            for call in self.TOLD:
                self.refuses(NoCode, call, thing, None, None, None, most=0)
            for call in self.SHOWS:
                self.refuses(NoCode, call, thing, None, None, None, None)

    def test_no_machine(self):
        for thing in ANYTHING:
            if thing != (1, 2, 3):
                for call in self.TOLD:
                    self.refuses(NoMachine, call, CODE, thing, None, None, most=0)
                for call in self.SHOWS:
                    self.refuses(NoMachine, call, CODE, thing, None, None, None)

    def test_no_seam(self):
        seams = (0, 1, 4, 5, 8, 9)
        for thing in ANYTHING + list(range(12)):
            is_seam = type(thing) is int and thing in seams
            for call in self.TOLD:
                if not is_seam:
                    self.refuses(NoSeam, call, CODE, MACHINE, thing, 9, most=0)
                if not is_seam or thing <= 0:
                    self.refuses(NoSeam, call, CODE, MACHINE, 0, thing, most=0)
            for call in self.SHOWS:
                if not is_seam:
                    self.refuses(NoSeam, call, CODE, MACHINE, thing, 9, None)
                if not is_seam or thing <= 0:
                    self.refuses(NoSeam, call, CODE, MACHINE, 0, thing, None)

    def test_in_the_wrong_order(self):
        for seam, other in ((1, 0), (4, 4), (9, 0), (9, 9), (0, 0), (8, 1), (9, 10)):
            for call in self.TOLD:
                self.refuses(NoSeam, call, CODE, MACHINE, seam, other, most=0)
            for call in self.SHOWS:
                self.refuses(NoSeam, call, CODE, MACHINE, seam, other, ())

    def test_most(self):
        for thing in ANYTHING:
            if not (type(thing) is int and 1 <= thing <= 5000):
                for call in self.TOLD:
                    self.refuses(NoMost, call, self.WIDE, MACHINE, 0, 1, most=thing)

    def test_too_wide_as_the_piece_to_the_number_of_rows(self):
        for call in self.TOLD:
            # the piece is three spots, but what goes on from its seam is too much
            self.refuses(TooWide, call, self.WIDE, MACHINE, 0, 3)
            self.refuses(TooWide, call, self.WIDE, MACHINE, 3, 43)
            # behind the loops it isn't
            call(self.WIDE, MACHINE, 43, 44)
            call(self.WIDE, MACHINE, 43, 45)
        self.same(seams_of(self.WIDE), (0, 1, 2, 3, 43, 44, 45))

    def test_just_as_many_spots_and_one_fewer(self):
        for seam in seams_of(CODE)[:-1]:
            spots = sorted({spot for _, told in piece_walks(CODE, MACHINE, seam, 9) for spot, _ in told})
            for other in [one for one in seams_of(CODE) if one > seam]:
                for call in self.TOLD:
                    self.same(call(CODE, MACHINE, seam, other, most=len(spots)), call(CODE, MACHINE, seam, other))
                    if len(spots) > 1:
                        self.refuses(TooWide, call, CODE, MACHINE, seam, other, most=len(spots) - 1)
        self.assertEqual(len(spots_of(CODE, MACHINE)), len({spot for _, told in piece_walks(CODE, MACHINE, 0, 9) for spot, _ in told}))

    def test_what_is_shown_is_never_too_wide(self):
        heights = piece_heights(self.WIDE, MACHINE, 0, 45, most=5000)
        self.assertIs(shows_piece(self.WIDE, MACHINE, 0, 45, heights), True)
        self.assertIs(shows_heights(self.WIDE, MACHINE, heights), True)
        self.same(piece_ticks(self.WIDE, MACHINE, 0, 1, (0,)), 4)


if __name__ == "__main__":
    unittest.main()
