import itertools
import unittest

from pacebond.bounds.longest import bound_of
from pacebond.cuts.cuts import cut_of, cut_paper, shows_cut
from pacebond.cuts.seams import piece_bound, piece_heights, piece_ticks, seams_of, shows_piece
from pacebond.errors import NoCode, NoMachine, NoMost, NoShare, TooWide
from pacebond.machine.moods import EMPTY
from tests.samples import ANYTHING, Case, FORTY, Picks, picked_code, piece_walks, put_at, unlikely, warped

END = ("end",)
REST = ("rest",)
MACHINE = (3, 1, 1)


def of(*rows, asks=((0, 1),), many=3, arrays=()):
    return (asks, many, 0, arrays, rows + (END,))


# Two rows stand in a line, so a piece that begins at an even row takes fewer ticks than one at an odd row.
RESTS = of(*[REST] * 7)


def bounds_of(code, machine):
    seams = seams_of(code)
    return {(seam, other): piece_bound(code, machine, seam, other, most=5000)
            for seam in seams for other in seams if seam < other}


def cut_by_all(code, machine, share):
    """The cut by all rows of seams that there are."""
    seams, bounds = seams_of(code), bounds_of(code, machine)
    for many in range(len(seams) - 1):
        cuts = [(0,) + inner + (len(code[4]),) for inner in itertools.combinations(seams[1:-1], many)]
        well = [cut for cut in cuts if all([bounds[pair] <= share for pair in zip(cut, cut[1:])])]
        if well:
            return ("cut", min(well))
    come = [0]
    for seam in come:
        come.extend([to for to in seams if to > seam and to not in come and bounds[seam, to] <= share])
    return ("none", tuple(sorted(come)))


class Cut(Case):
    def test_the_whole(self):
        bound = bound_of(RESTS, MACHINE)
        self.same(cut_of(RESTS, MACHINE, bound), ("cut", (0, 8)))
        self.same(cut_of(RESTS, MACHINE, FORTY), ("cut", (0, 8)))
        self.same(cut_of(of(), MACHINE, 4), ("cut", (0, 1)))

    def test_a_tick_less(self):
        # 20 ticks are 4 misses and 8 rows; 0 to 7 takes 19
        self.assertEqual(bound_of(RESTS, MACHINE), 20)
        self.same(cut_of(RESTS, MACHINE, 19), ("cut", (0, 1, 8)))
        self.same([piece_bound(RESTS, MACHINE, 0, 7), piece_bound(RESTS, MACHINE, 1, 8)], [19, 19])

    def test_the_first_of_as_few(self):
        # by 10 two lines may be in a piece: four rows from an even row, three from an odd one
        self.same(piece_bound(RESTS, MACHINE, 0, 4), 10)
        self.same(piece_bound(RESTS, MACHINE, 1, 4), 9)
        self.same(piece_bound(RESTS, MACHINE, 1, 5), 13)
        self.same(cut_of(RESTS, MACHINE, 10), ("cut", (0, 4, 8)))
        self.same(cut_of(of(*[REST] * 6), MACHINE, 10), ("cut", (0, 4, 7)))
        self.same(cut_of(of(*[REST] * 5), MACHINE, 10), ("cut", (0, 2, 6)))
        self.same(cut_of(of(*[REST] * 3), MACHINE, 9), ("cut", (0, 1, 4)))

    def test_as_far_as_can_be_is_not_fewest(self):
        # From row 3 on line 2 is near already as the loop is come to, so line 3 comes without it, and it misses once more.
        code, machine = of(
            ("get", 1, 0, 0),    # 0
            ("copy", 2, 1),      # 1
            REST,                # 2
            ("count", 2),        # 3
            REST,                # 4
            REST,                # 5
            REST,                # 6
            ("again", 4),        # 7, end behind it
            arrays=(1,)), (9, 2, 1)
        share = piece_bound(code, machine, 1, 9)
        bounds = bounds_of(code, machine)
        self.same(seams_of(code), (0, 1, 2, 3, 8, 9))
        self.assertGreater(bounds[3, 8], bounds[1, 8])
        # as far as can be from each is 3, 8, 9
        self.assertEqual([bounds[pair] <= share for pair in ((0, 3), (0, 8), (3, 8), (3, 9), (8, 9), (1, 9))],
                         [True, False, True, False, True, True])
        self.same(cut_of(code, machine, share), ("cut", (0, 1, 9)))
        self.assertIs(shows_cut(code, machine, share, cut_paper(code, machine, share)), True)
        # by fewer ticks nothing leads on from 3 at all
        share = bounds[1, 8]
        self.assertEqual([bounds[pair] <= share for pair in ((0, 3), (0, 8), (3, 8))], [True, False, False])
        self.same(cut_of(code, machine, share), ("cut", (0, 1, 8, 9)))

    def test_one(self):
        # a miss takes a tick at least, so no row is done within 1
        self.same(cut_of(RESTS, MACHINE, 1), ("none", (0,)))
        self.same(cut_of(of(), (1, 1, 1), 1), ("none", (0,)))
        self.same(cut_of(of(), (1, 1, 1), 2), ("cut", (0, 1)))

    def test_none(self):
        # the loop is one piece, which takes longer
        code = of(REST, REST, ("count", 6), REST, ("again", 3), REST)
        self.same(seams_of(code), (0, 1, 2, 5, 6, 7))
        self.same(cut_of(code, MACHINE, 10), ("none", (0, 1, 2)))
        self.same(cut_of(code, MACHINE, 4), ("none", (0, 1, 2)))
        self.same(cut_of(code, MACHINE, 3), ("none", (0,)))
        need = piece_bound(code, MACHINE, 2, 5)
        self.assertEqual(cut_of(code, MACHINE, need)[0], "cut")
        self.same(cut_of(code, MACHINE, need - 1), ("none", (0, 1, 2)))

    def test_by_all_cuts(self):
        found = {"cut": 0, "none": 0}
        for seed in range(80):
            picks = Picks(seed)
            code = picked_code(picks, 10)
            machine = (1 + picks.below(6), 1 + picks.below(3), 1 + picks.below(2))
            try:
                bounds = bounds_of(code, machine)
                for share in sorted({1, 2} | set(bounds.values()) | {bound - 1 for bound in bounds.values()}):
                    told = cut_of(code, machine, share, most=5000)
                    found[told[0]] += 1
                    self.same(told, cut_by_all(code, machine, share))
            except TooWide:
                continue
        self.assertGreater(min(found.values()), 200)


def shown(code, machine, share, thing):
    """Whether it is a paper, part by part, by what single pieces tell."""
    seams = seams_of(code)
    if type(thing) is not tuple or [type(part) for part in thing] != [tuple] * 3:
        return False
    rows, pieces, walks = thing
    for row in rows:
        if type(row) is not tuple or len(row) != 2 or [type(one) for one in row] != [int, int] or row[1] < 0:
            return False
    if rows[:1] != ((0, 0),) or list(rows) != sorted(set(rows)) or not {seam for seam, _ in rows} <= set(seams):
        return False
    numbers = dict(rows)
    if len(numbers) != len(rows) or len(pieces) != len(rows) - 1 or len(walks) != len(rows):
        return False
    for (to, number), piece in zip(rows[1:], pieces):
        if type(piece) is not tuple or len(piece) != 2 or type(piece[0]) is not int:
            return False
        seam, heights = piece
        if numbers.get(seam) != number - 1 or seam >= to or not shows_piece(code, machine, seam, to, heights):
            return False
        if dict(heights)[(seam, (), EMPTY)] > share:
            return False
    for (seam, number), walk in zip(rows, walks):
        later = [to for to in seams if to > seam and not (to in numbers and numbers[to] <= number + 1)]
        if not later and walk is not None:
            return False
        if later:
            ticks = piece_ticks(code, machine, seam, later[0], walk)
            if ticks is None or ticks <= share:
                return False
    return True


class Papers(Case):
    CODE = of(REST, ("test", 0, 3), REST, ("count", 2), REST, ("again", 4), REST)

    def both(self, thing, code=None, share=13):
        code = code or self.CODE
        told = self.truth(shows_cut(code, MACHINE, share, thing))
        self.assertEqual(told, shown(code, MACHINE, share, thing), thing)
        return told

    def test_numbers(self):
        self.same(seams_of(self.CODE), (0, 1, 3, 6, 7, 8))
        rows, pieces, walks = cut_paper(self.CODE, MACHINE, 13)
        bounds = bounds_of(self.CODE, MACHINE)
        numbers = {}
        for seam in seams_of(self.CODE):
            found = [numbers[one] + 1 for one in numbers if bounds[one, seam] <= 13]
            if seam == 0 or found:
                numbers[seam] = min(found, default=0)
        self.same(rows, tuple(sorted(numbers.items())))
        self.assertEqual([len(pieces), len(walks)], [len(rows) - 1, len(rows)])

    def test_papers_that_are_told_are_shown(self):
        for share in range(1, 40):
            paper = cut_paper(self.CODE, MACHINE, share)
            self.assertTrue(self.both(paper, share=share))
            word, seams = cut_of(self.CODE, MACHINE, share)
            numbers = dict(paper[0])
            if word == "cut":
                self.assertEqual(numbers[8], len(seams) - 1)
            else:
                self.same(tuple(numbers), seams)
        for seed in range(60):
            picks = Picks(seed)
            code = picked_code(picks, 9)
            share = 2 + picks.below(40)
            try:
                self.assertTrue(self.both(cut_paper(code, MACHINE, share), code, share))
            except TooWide:
                self.refuses(TooWide, shows_cut, code, MACHINE, share, None)

    def test_numbers_otherwise(self):
        for share in (4, 8, 13, 20):
            rows, pieces, walks = cut_paper(self.CODE, MACHINE, share)
            for at, (seam, number) in enumerate(rows):
                for other in (number + 1, number - 1, 0, -1, True, None, "1"):
                    if repr(other) != repr(number):
                        thing = (put_at(rows, (at, 1), other), pieces, walks)
                        self.assertFalse(self.both(thing, share=share))
                self.assertFalse(self.both((rows[:at] + rows[at + 1:], pieces, walks), share=share))
                self.assertFalse(self.both((rows[:at] + rows[at + 1:], pieces[:-1], walks[:-1]), share=share) and at < len(rows) - 1)
                self.assertFalse(self.both((rows[:at] + (rows[at],) + rows[at:], pieces, walks), share=share))
                self.assertFalse(self.both((rows[:at] + ((seam, number + 1),) + rows[at:], pieces, walks), share=share))
                self.assertFalse(self.both((put_at(rows, (at, 0), 2), pieces, walks), share=share))
            if len(rows) > 1:
                self.assertFalse(self.both((rows[::-1], pieces, walks), share=share))

    def test_0_must_have_0(self):
        # within 3 no seam but 0 is come to
        (rows, pieces, walks) = cut_paper(self.CODE, MACHINE, 3)
        self.same((rows, pieces), (((0, 0),), ()))
        self.assertTrue(self.both((rows, pieces, walks), share=3))
        for other in (((0, 1),), ((0, 7),), ((1, 0),), ((1, 1),), ()):
            for walk in (walks[0], (0,), (0, 0), None):
                self.assertFalse(self.both((other, (), (walk,) * len(other)), share=3))
        rows, pieces, walks = cut_paper(self.CODE, MACHINE, 13)
        self.assertFalse(self.both((tuple([(seam, number + 1) for seam, number in rows]), pieces, walks)))
        self.assertFalse(self.both((rows[1:], pieces[1:], walks[1:])))

    def test_a_number_for_what_is_no_seam(self):
        # all is one piece, and heights of the whole code bear a row in it out, too; but it is none that is cut at
        rows, pieces, walks = cut_paper(self.CODE, MACHINE, 500)
        self.same(rows, ((0, 0), (1, 1), (3, 1), (6, 1), (7, 1), (8, 1)))
        heights = piece_heights(self.CODE, MACHINE, 0, 8)
        for row, at in ((2, 2), (4, 3), (5, 3)):
            thing = (rows[:at] + ((row, 1),) + rows[at:], pieces[:at - 1] + ((0, heights),) + pieces[at - 1:], walks + (None,))
            self.assertFalse(self.both(thing, share=500))

    def test_a_seam_too_few_at_the_end(self):
        # what is left out is come to, so no walk to it takes longer
        rows, pieces, walks = cut_paper(self.CODE, MACHINE, 13)
        self.assertEqual(rows[-1][0], 8)
        for walk in [walk for walk, _ in piece_walks(self.CODE, MACHINE, rows[-2][0], 8)] + [None]:
            self.assertFalse(self.both((rows[:-1], pieces[:-1], walks[:-2] + (walk,))))

    def test_more_pieces_than_need_be(self):
        # 1 by two pieces, though it is come to by one: no walk to it takes longer than the share
        code = of(REST, REST)
        rows, pieces, walks = cut_paper(code, MACHINE, 5)
        self.same(rows, ((0, 0), (1, 1), (2, 1), (3, 2)))
        longer = (((0, 0), (1, 1), (2, 2), (3, 3)),
                  (pieces[0], (1, piece_heights(code, MACHINE, 1, 2)), (2, piece_heights(code, MACHINE, 2, 3))))
        for walk in [(0, 0), (0,), None]:
            self.assertFalse(self.both(longer + ((walk, None, None, None),), code, 5))
            self.assertFalse(self.both(longer + ((walk, (0, 0), None, None),), code, 5))

    def test_pieces_otherwise(self):
        rows, pieces, walks = cut_paper(self.CODE, MACHINE, 13)
        numbers = dict(rows)
        for at, (seam, heights) in enumerate(pieces):
            to = rows[at + 1][0]
            for other in (0, 1, 2, 3, 6, 7, 8, -1, None, True, False, "0", 9):
                self.both((rows, put_at(pieces, (at, 0), other), walks))
            # from any seam with a number one less, with any heights within the share
            for other in [one for one in numbers if one < to]:
                told = piece_heights(self.CODE, MACHINE, other, to)
                bound = piece_bound(self.CODE, MACHINE, other, to)
                thing = (rows, pieces[:at] + ((other, told),) + pieces[at + 1:], walks)
                self.assertEqual(self.both(thing), numbers[other] == numbers[to] - 1 and bound <= 13)
            spare = 13 - piece_bound(self.CODE, MACHINE, seam, to)
            for more in (-1, 0, spare, spare + 1):
                raised = tuple([(spot, number + more) for spot, number in heights])
                self.assertEqual(self.both((rows, put_at(pieces, (at, 1), raised), walks)), 0 <= more <= spare)
            self.assertFalse(self.both((rows, pieces[:at] + pieces[at + 1:], walks)))
            self.assertFalse(self.both((rows, put_at(pieces, (at,), heights), walks)))
            self.assertFalse(self.both((rows, put_at(pieces, (at,), (seam, heights, 0)), walks)))
            self.assertFalse(self.both((rows, put_at(pieces, (at, 1), heights[:-1]), walks)))
        self.assertFalse(self.both((rows, pieces + pieces[-1:], walks)))

    def test_walks_otherwise(self):
        for share in (4, 8, 13):
            rows, pieces, walks = cut_paper(self.CODE, MACHINE, share)
            numbers = dict(rows)
            for at, (seam, number) in enumerate(rows):
                later = [to for to in (0, 1, 3, 6, 7, 8) if to > seam and numbers.get(to, 99) > number + 1]
                if not later:
                    self.same(walks[at], None)
                    self.assertFalse(self.both((rows, pieces, put_at(walks, (at,), ())), share=share))
                    self.assertFalse(self.both((rows, pieces, put_at(walks, (at,), (0,))), share=share))
                    continue
                for walk, told in piece_walks(self.CODE, MACHINE, seam, later[0]):
                    wanted = sum([ticks for _, ticks in told]) > share
                    self.assertEqual(self.both((rows, pieces, put_at(walks, (at,), walk)), share=share), wanted)
                    for thing in (walk[:-1], walk + (0,), list(walk), walk[:-1] + (2,), None):
                        self.assertFalse(self.both((rows, pieces, put_at(walks, (at,), thing)), share=share))
                # a walk to a later one, which takes longer, too, is none to the first one
                for other in later[1:]:
                    for walk, _ in piece_walks(self.CODE, MACHINE, seam, other):
                        self.assertFalse(self.both((rows, pieces, put_at(walks, (at,), walk)), share=share))
            self.assertFalse(self.both((rows, pieces, walks[:-1]), share=share))
            self.assertFalse(self.both((rows, pieces, walks + (None,)), share=share))

    def test_another_share(self):
        for share in range(3, 30):
            paper = cut_paper(self.CODE, MACHINE, share)
            for other in range(3, 30):
                told = self.both(paper, share=other)
                # no piece's bound between the two, so all is alike
                between = [bound for bound in bounds_of(self.CODE, MACHINE).values()
                           if min(share, other) < bound <= max(share, other)]
                if not between:
                    self.assertTrue(told)

    def test_one_part_otherwise_and_of_anything(self):
        code = of(REST, REST)
        for share in (4, 5, 10):
            paper = cut_paper(code, MACHINE, share)
            for thing in ANYTHING + unlikely(paper) + [paper + ((),), paper[:2], (paper,), list(paper), paper[::-1]]:
                self.assertFalse(self.both(thing, code, share))
            for thing in warped(paper):
                self.both(thing, code, share)


class Refused(Case):
    CALLS = ((cut_of, ()), (cut_paper, ()), (shows_cut, (None,)))
    WIDE = of(REST, ("count", 6), ("count", 6), ("get", 0, 0, 0), *[REST] * 38, ("again", 3), ("again", 2), REST, arrays=(1,))

    def test_in_its_order(self):
        for call, more in self.CALLS:
            for thing in ANYTHING:
                self.refuses(NoCode, call, thing, None, None, *more, most=0)
                if thing != (1, 2, 3):
                    self.refuses(NoMachine, call, self.WIDE, thing, None, *more, most=0)
                if not (type(thing) is int and thing > 0):
                    self.refuses(NoShare, call, self.WIDE, MACHINE, thing, *more, most=0)
                if not (type(thing) is int and 1 <= thing <= 5000):
                    self.refuses(NoMost, call, self.WIDE, MACHINE, 1, *more, most=thing)
            self.refuses(TooWide, call, self.WIDE, MACHINE, 1, *more)

    def test_too_wide_by_any_seam(self):
        # more spots go on from row 2, where nothing is near yet, than from row 0
        code = of(REST, ("set", 1, 1), *[("get", 2, 0, 0)] * 3, arrays=(6,))
        most = max([len({spot for _, told in piece_walks(code, MACHINE, seam, 6) for spot, _ in told})
                    for seam in seams_of(code)[:-1]])
        for call, more in self.CALLS:
            self.same(call(code, MACHINE, 9, *more, most=most), call(code, MACHINE, 9, *more))
            self.refuses(TooWide, call, code, MACHINE, 9, *more, most=most - 1)

    def test_too_wide_by_a_seam_that_is_not_come_to(self):
        # Begun at row 1 the cell is near behind row 2 alone, so all that follows is come to by two moods.
        code = of(("get", 1, 0, 0), ("test", 0, 3), ("get", 1, 0, 0), *[REST] * 8, arrays=(1,))
        many = [len({spot for _, told in piece_walks(code, MACHINE, seam, 12) for spot, _ in told}) for seam in (0, 1)]
        self.assertGreater(many[1], many[0])
        for call, more in self.CALLS:
            self.refuses(TooWide, call, code, MACHINE, 1, *more, most=many[0])
            self.refuses(TooWide, call, code, MACHINE, 1, *more, most=many[1] - 1)
            call(code, MACHINE, 1, *more, most=many[1])
        self.same(cut_of(code, MACHINE, 1, most=many[1]), ("none", (0,)))


if __name__ == "__main__":
    unittest.main()
