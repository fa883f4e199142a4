import unittest

from pacebond.codes.codes import come_to
from pacebond.errors import NoCode, NoMachine, NoMost, NoRow, NoWalk, TooWide
from pacebond.machine.moods import BEGIN, EMPTY, is_spot
from pacebond.machine.near import lines_of
from pacebond.machine.steps import step, steps_from
from pacebond.machine.walks import spot_at, spots_of
from pacebond.sure.hits import shows_sure_cells, shows_sure_row, sure_cells, sure_row, sure_rows
from tests.samples import ANYTHING, Case, Picks, picked_code, put_at, unlikely, warped

END = ("end",)
REST = ("rest",)
MACHINE = (3, 1, 1)


def of(*rows, asks=(), many=3, arrays=()):
    return (asks, many, 0, arrays, rows + (END,))


# Row 3 is come to from row 0 or from row 2, row 6 from row 3 alone, row 4 by no walk.
CODE = of(
    ("test", 0, 3),      # 0, line 0
    REST,                # 1, line 0
    REST,                # 2, line 1
    ("go", 6),           # 3, line 1
    REST,                # 4, line 2
    REST,                # 5, line 2
    REST,                # 6, line 3
    REST,                # 7, line 3
    asks=((0, 1),))

GETS = of(
    ("get", 0, 0, 2),    # 0: an array of one line
    ("put", 0, 1, 1),    # 1: sure behind it
    ("get", 0, 1, 1),    # 2: an array of two lines
    ("put", 1, 2, 1),    # 3: of these one is near
    ("go", 6),           # 4
    ("get", 1, 1, 1),    # 5: no walk comes to it
    ("get", 1, 0, 1),    # 6
    arrays=(2, 4))


def shows(code, machine, row, thing, misses):
    """Whether it is a paper on a row, by single steps; misses tells whether a choice at a spot misses."""
    if type(thing) is not tuple or len(thing) != 2 or type(thing[1]) is not tuple:
        return False
    word, told = thing
    if word == "sure":
        if not all([is_spot(code, machine, spot) for spot in told]) or list(told) != sorted(set(told)) or BEGIN not in told:
            return False
        behind = [one[4] for spot in told for one in steps_from(code, machine, spot)]
        if any([spot is not None and spot not in told for spot in behind]):
            return False
        here = [spot for spot in told if spot[0] == row]
        return not any([misses(spot, choice) for spot in here for choice in range(len(steps_from(code, machine, spot)))])
    return word == "not"


def fetch_shown(code, machine, row, thing):
    if not shows(code, machine, row, thing, lambda spot, choice: row // 2 not in spot[2][0]):
        return False
    if thing[0] == "sure":
        return True
    try:
        spot = spot_at(code, machine, thing[1])
    except NoWalk:
        return False
    return spot is not None and spot[0] == row and row // 2 not in spot[2][0]


def cells_shown(code, machine, row, thing):
    own = code[4][row]
    lines = lines_of(code, own[2] if own[0] == "get" else own[1])
    if not shows(code, machine, row, thing, lambda spot, choice: lines[choice] not in spot[2][1]):
        return False
    if thing[0] == "sure":
        return True
    if not thing[1]:
        return False
    try:
        spot_at(code, machine, thing[1])
        spot = spot_at(code, machine, thing[1][:-1])
    except NoWalk:
        return False
    return spot[0] == row and step(code, machine, spot, thing[1][-1])[2] != 0


class Rows(Case):
    def test_which_are_sure(self):
        self.same(sure_rows(CODE, MACHINE), (1, 4, 5, 7))
        self.same(sure_rows(CODE, (3, 2, 1)), (1, 2, 3, 4, 5, 7, 8))
        self.same(sure_rows(of(), MACHINE), ())
        self.same(sure_rows(of(REST), MACHINE), (1,))
        self.same(sure_rows(of(("go", 2), REST), (3, 4, 1)), (1, 2))

    def test_papers(self):
        for row in range(9):
            word, told = sure_row(CODE, MACHINE, row)
            self.assertEqual(word, "sure" if row in (1, 4, 5, 7) else "not")
            if word == "sure":
                self.same(told, spots_of(CODE, MACHINE))
            else:
                spot = spot_at(CODE, MACHINE, told)
                self.assertEqual(spot[0], row)
                self.assertNotIn(row // 2, spot[2][0])
        self.same(sure_row(CODE, MACHINE, 0), ("not", ()))
        self.same(sure_row(CODE, MACHINE, 2), ("not", (0, 0)))
        self.same(sure_row(CODE, MACHINE, 3), ("not", (1,)))

    def test_papers_that_are_told_are_shown(self):
        found = {"sure": 0, "not": 0}
        for seed in range(60):
            picks = Picks(seed)
            code = picked_code(picks, 8)
            machine = (1 + picks.below(4), 1 + picks.below(4), 1 + picks.below(4))
            spots = spots_of(code, machine, most=5000)
            sure = [row for row in range(len(code[4])) if all([row // 2 in spot[2][0] for spot in spots if spot[0] == row])]
            self.same(sure_rows(code, machine, most=5000), tuple(sure))
            for row in range(len(code[4])):
                paper = sure_row(code, machine, row, most=5000)
                found[paper[0]] += 1
                self.assertEqual(paper[0], "sure" if row in sure else "not")
                self.assertTrue(self.truth(shows_sure_row(code, machine, row, paper)))
                self.assertTrue(fetch_shown(code, machine, row, paper))
                if row not in come_to(code):
                    self.assertIn(row, sure)
        self.assertGreater(min(found.values()), 50)


class ShownRows(Case):
    def both(self, row, thing, code=CODE, machine=MACHINE):
        shown = self.truth(shows_sure_row(code, machine, row, thing))
        self.assertEqual(shown, fetch_shown(code, machine, row, thing), (row, thing))
        return shown

    def test_any_spots(self):
        spots = spots_of(CODE, MACHINE)
        # a spot that no walk comes to, at which row 8's line is near, and one at which it isn't
        near, far = (8, (), ((4,), (), ())), (8, (), EMPTY)
        for row in range(9):
            for more in ((), (near,), (far,), (near, far)):
                shown = self.both(row, ("sure", tuple(sorted(set(spots + more)))))
                self.assertEqual(shown, row in (1, 4, 5, 7))
        # row 4, which no walk comes to, may stand there with its line
        for mood, wanted in ((((2,), (), ()), True), (EMPTY, False)):
            more = ((4, (), mood), (5, (), ((2,), (), ())), (6, (), ((2,), (), ())))
            self.assertEqual(self.both(4, ("sure", tuple(sorted(spots + more)))), wanted)
            self.assertEqual(self.both(5, ("sure", tuple(sorted(spots + more)))), True)

    def test_spots_otherwise(self):
        spots = spots_of(CODE, MACHINE)
        for at in range(len(spots)):
            self.assertFalse(self.both(1, ("sure", spots[:at] + spots[at + 1:])))
            self.assertFalse(self.both(1, ("sure", spots[:at] + (spots[at],) + spots[at:])))
            self.assertFalse(self.both(1, ("sure", spots[:at] + spots[at + 1:] + spots[at:at + 1])) and at < len(spots) - 1)
        self.assertFalse(self.both(1, ("sure", spots[::-1])))
        self.assertFalse(self.both(1, ("sure", ())))
        self.assertFalse(self.both(1, ("sure", tuple(sorted(spots + ((4, (), ((2,), (), ())),))))))
        self.assertFalse(self.both(1, ("sure", spots_of(CODE, (3, 2, 1)))))

    def test_any_choices(self):
        for row, choices in ((0, ()), (2, (0, 0)), (3, (1,)), (6, (1, 0)), (6, (0, 0, 0, 0)), (8, (1, 0, 0, 0))):
            self.assertTrue(self.both(row, ("not", choices)))
            for other in range(9):
                self.assertEqual(self.both(other, ("not", choices)), other == row)

    def test_choices_otherwise(self):
        # its line is near there; no choice; behind end; no row of choices
        for row, choices in ((1, (0,)), (3, (0, 0, 0)), (7, (1, 0, 0)), (3, (2,)), (3, (True,)), (8, (1, 0, 0, 0, 0)),
                             (8, (1, 0, 0, 0, 0, 0)), (3, [1]), (0, []), (0, None), (0, 0), (3, 1)):
            self.assertFalse(self.both(row, ("not", choices)))

    def test_the_words(self):
        spots = spots_of(CODE, MACHINE)
        for word in ("", "Sure", "sure ", "sharp", None, 0, True):
            self.assertFalse(self.both(1, (word, spots)))
            self.assertFalse(self.both(3, (word, (1,))))
        self.assertFalse(self.both(1, ("not", spots)))
        self.assertFalse(self.both(3, ("sure", (1,))))

    def test_one_part_otherwise_and_of_anything(self):
        for row in range(9):
            paper = sure_row(CODE, MACHINE, row)
            for thing in unlikely(paper) + ANYTHING + [paper + (0,), paper[:1], (paper,), list(paper)]:
                self.assertFalse(self.both(row, thing))
        for thing in warped(("not", (0, 0))) + warped(("not", ())):
            for row in (0, 2, 3):
                self.both(row, thing)
        code = of(REST)
        for thing in warped(sure_row(code, MACHINE, 1)):
            self.both(1, thing, code)
            self.both(0, thing, code)


class Cells(Case):
    def test_papers(self):
        spots = spots_of(GETS, MACHINE)
        for row, word in ((0, "not"), (1, "sure"), (2, "not"), (3, "not"), (5, "sure"), (6, "not")):
            paper = sure_cells(GETS, MACHINE, row)
            self.assertEqual(paper[0], word)
            if word == "sure":
                self.same(paper, ("sure", spots))
            self.assertIs(shows_sure_cells(GETS, MACHINE, row, paper), True)
        self.same(sure_cells(GETS, MACHINE, 0), ("not", (0,)))

    def test_lines_near(self):
        # one get brings but one of an array's two lines, however many may be near
        for cells in (1, 2, 3, 4):
            self.assertEqual([sure_cells(GETS, (3, 1, cells), row)[0] for row in range(4)], ["not", "sure", "not", "not"])
        twice = of(*[("get", 0, 0, 0)] * 2, ("put", 1, 0, 0), ("get", 0, 0, 0), arrays=(2, 1))
        self.assertEqual([sure_cells(twice, (3, 1, 1), row)[0] for row in range(4)], ["not", "sure", "not", "not"])
        self.assertEqual([sure_cells(twice, (3, 1, 2), row)[0] for row in range(4)], ["not", "sure", "not", "sure"])

    def test_a_cell_that_one_way_alone_makes_near(self):
        code = of(("test", 0, 2), ("get", 1, 0, 0), ("get", 1, 0, 0), asks=((0, 1),), arrays=(1,))
        self.same(sure_cells(code, MACHINE, 2), ("not", (1, 0)))
        self.assertIs(shows_sure_cells(code, MACHINE, 2, ("not", (0, 0, 0))), False)

    def test_papers_that_are_told_are_shown(self):
        found = {"sure": 0, "not": 0}
        for seed in range(200):
            picks = Picks(seed)
            code = picked_code(picks, 9)
            machine = (1 + picks.below(4), 1 + picks.below(4), 1 + picks.below(4))
            try:
                spots = spots_of(code, machine, most=300)
            except TooWide:
                continue
            for row, own in enumerate(code[4]):
                if own[0] not in ("get", "put"):
                    continue
                lines = lines_of(code, own[2] if own[0] == "get" else own[1])
                sure = all([line in spot[2][1] for line in lines for spot in spots if spot[0] == row])
                paper = sure_cells(code, machine, row, most=5000)
                found[paper[0]] += 1
                self.assertEqual(paper[0], "sure" if sure else "not")
                self.assertTrue(self.truth(shows_sure_cells(code, machine, row, paper)))
                self.assertTrue(cells_shown(code, machine, row, paper))
        self.assertGreater(min(found.values()), 20)


class ShownCells(Case):
    def both(self, row, thing, code=GETS, machine=MACHINE):
        shown = self.truth(shows_sure_cells(code, machine, row, thing))
        self.assertEqual(shown, cells_shown(code, machine, row, thing), (row, thing))
        return shown

    def test_any_choices(self):
        # rows 0 and 1 by the one line, row 2 by either; row 3 misses by the other one
        for row, choices, wanted in (
            (0, (0,), True), (1, (0, 0), False), (2, (0, 0, 0), True), (2, (0, 0, 1), True), (3, (0, 0, 0, 1), True),
            (3, (0, 0, 1, 0), True), (3, (0, 0, 0, 0), False), (3, (0, 0, 1, 1), False), (3, (0, 0, 0), False),
            (0, (), False), (2, (0, 0), False), (2, (0, 0, 2), False), (6, (0, 0, 0, 0, 0, 0), True), (6, (0,) * 7, False),
            (6, (0,) * 8, False), (0, (0, 0), False), (0, [0], False), (0, (False,), False), (0, None, False),
        ):
            self.assertEqual(self.both(row, ("not", choices)), wanted, (row, choices))
            for other in (0, 1, 2, 3, 5, 6):
                if other != row:
                    self.both(other, ("not", choices))

    def test_any_spots(self):
        spots = spots_of(GETS, MACHINE)
        far = (6, (), EMPTY)
        closed = [far] + [one[4] for one in steps_from(GETS, MACHINE, far)]
        for row, wanted in ((0, False), (1, True), (2, False), (3, False), (5, True), (6, False)):
            self.assertEqual(self.both(row, ("sure", spots)), wanted)
            self.assertEqual(self.both(row, ("sure", tuple(sorted(set(list(spots) + closed))))), wanted)
        for at in range(len(spots)):
            self.assertFalse(self.both(1, ("sure", spots[:at] + spots[at + 1:])))
        # a spot of row 1 that no walk comes to, whose cell isn't near
        far = (1, (), ((0,), (), ()))
        closed = [far]
        for spot in closed:
            closed.extend([one[4] for one in steps_from(GETS, MACHINE, spot) if one[4] is not None])
        self.assertFalse(self.both(1, ("sure", tuple(sorted(set(list(spots) + closed))))))
        self.assertTrue(self.both(5, ("sure", tuple(sorted(set(list(spots) + closed))))))

    def test_one_part_otherwise_and_of_anything(self):
        for row in (0, 1, 2, 3, 5, 6):
            paper = sure_cells(GETS, MACHINE, row)
            for thing in unlikely(paper) + ANYTHING + [paper + (0,), paper[:1], (paper,), list(paper)]:
                self.assertFalse(self.both(row, thing))
            for word in ("", "Sure", "not ", "sharp", None):
                self.assertFalse(self.both(row, (word, paper[1])))
        for thing in warped(("not", (0, 0, 1))):
            for row in (0, 2, 3):
                self.both(row, thing)
        for part in ANYTHING:
            self.both(1, put_at(sure_cells(GETS, MACHINE, 1), (1, 0), part))


class Refused(Case):
    CALLS = ((sure_row, {"most": 0}), (sure_cells, {"most": 0}))
    SHOWS = (shows_sure_row, shows_sure_cells)
    WIDE = of(("count", 6), ("count", 6), ("get", 0, 0, 0), *[REST] * 40, ("again", 2), ("again", 1), arrays=(1,))

    def test_code_and_machine(self):
        for thing in ANYTHING:
            for call, more in self.CALLS:
                self.refuses(NoCode, call, thing, None, None, **more)
                if thing != (1, 2, 3):
                    self.refuses(NoMachine, call, GETS, thing, None, **more)
            for call in self.SHOWS:
                self.refuses(NoCode, call, thing, None, None, None)
                if thing != (1, 2, 3):
                    self.refuses(NoMachine, call, GETS, thing, None, None)
            self.refuses(NoCode, sure_rows, thing, None, most=0)
            if thing != (1, 2, 3):
                self.refuses(NoMachine, sure_rows, GETS, thing, most=0)

    def test_row(self):
        for thing in ANYTHING + [8]:
            if type(thing) is int and 0 <= thing < 8:
                continue
            for call, more in self.CALLS:
                self.same(self.refuses(NoRow, call, GETS, MACHINE, thing, **more).number, thing)
            for call in self.SHOWS:
                self.same(self.refuses(NoRow, call, GETS, MACHINE, thing, None).number, thing)

    def test_row_that_is_no_get_and_no_put(self):
        code = of(("set", 0, 1), ("copy", 0, 1), ("*", 0, 1, 1), ("test", 0, 4), ("go", 5), ("count", 2), ("again", 6), REST,
                  ("get", 0, 0, 0), arrays=(1,))
        for row in (0, 1, 2, 3, 4, 5, 6, 7, 9):
            self.same(self.refuses(NoRow, sure_cells, code, MACHINE, row, most=0).number, row)
            self.same(self.refuses(NoRow, shows_sure_cells, code, MACHINE, row, ("sure", ())).number, row)
            sure_row(code, MACHINE, row)
        sure_cells(code, MACHINE, 8)

    def test_most(self):
        for thing in ANYTHING:
            if not (type(thing) is int and 1 <= thing <= 5000):
                self.refuses(NoMost, sure_row, self.WIDE, MACHINE, 2, most=thing)
                self.refuses(NoMost, sure_cells, self.WIDE, MACHINE, 2, most=thing)
                self.refuses(NoMost, sure_rows, self.WIDE, MACHINE, most=thing)

    def test_just_as_many_spots_and_one_fewer(self):
        many = len(spots_of(GETS, MACHINE))
        for row in (1, 3):
            self.same(sure_row(GETS, MACHINE, row, most=many), sure_row(GETS, MACHINE, row))
            self.same(sure_cells(GETS, MACHINE, row, most=many), sure_cells(GETS, MACHINE, row))
            self.refuses(TooWide, sure_row, GETS, MACHINE, row, most=many - 1)
            self.refuses(TooWide, sure_cells, GETS, MACHINE, row, most=many - 1)
        self.same(sure_rows(GETS, MACHINE, most=many), sure_rows(GETS, MACHINE))
        self.refuses(TooWide, sure_rows, GETS, MACHINE, most=many - 1)
        self.refuses(TooWide, sure_row, self.WIDE, MACHINE, 2)
        self.refuses(TooWide, sure_cells, self.WIDE, MACHINE, 2)
        self.refuses(TooWide, sure_rows, self.WIDE, MACHINE)

    def test_what_is_shown_is_never_too_wide(self):
        self.assertIs(shows_sure_row(self.WIDE, MACHINE, 3, sure_row(self.WIDE, MACHINE, 3, most=5000)), True)
        self.assertIs(shows_sure_cells(self.WIDE, MACHINE, 2, sure_cells(self.WIDE, MACHINE, 2, most=5000)), True)
        self.assertIs(shows_sure_row(self.WIDE, MACHINE, 3, None), False)


if __name__ == "__main__":
    unittest.main()
