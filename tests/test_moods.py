import unittest

from pacebond.errors import NoCode, NoMachine
from pacebond.machine.moods import BEGIN, EMPTY, is_mood, is_spot
from tests.samples import ANYTHING, Case, put_at, unlikely, warped

MACHINE = (5, 2, 3)

# Six rows in lines 0 to 2, cells in lines 0 to 2, the registers 0 to 2.
CODE = (
    ((0, 9),), 3, 1, (3, 2),
    (
        ("count", 3),      # 0
        ("count", 2),      # 1
        ("rest",),         # 2
        ("again", 2),      # 3
        ("again", 1),      # 4
        ("end",),          # 5
    ),
)


def mood(rows=(), cells=(), coming=()):
    return (rows, cells, coming)


class Moods(Case):
    def good(self, *moods):
        for thing in moods:
            self.assertIs(is_mood(CODE, MACHINE, thing), True, thing)
            self.assertIs(is_spot(CODE, MACHINE, (0, (), thing)), True, thing)

    def bad(self, *things):
        for thing in things:
            self.assertIs(is_mood(CODE, MACHINE, thing), False, thing)
            self.assertIs(is_spot(CODE, MACHINE, (0, (), thing)), False, thing)

    def test_begin_and_empty(self):
        self.same(EMPTY, ((), (), ()))
        self.same(BEGIN, (0, (), ((), (), ())))
        self.good(EMPTY)
        self.assertIs(is_spot(CODE, MACHINE, BEGIN), True)

    def test_rows(self):
        self.good(mood((0,)), mood((2,)), mood((0, 1)), mood((2, 0)))
        self.bad(mood((3,)), mood((0, 3)), mood((-1,)), mood((0, 1, 2)), mood((1, 1)), mood((True,)), mood([0]), mood(0),
                 mood(("0",)), mood(((0,),)), mood(None))

    def test_rows_of_an_odd_number(self):
        code = put_at(CODE, (4,), CODE[4][:5] + (("rest",), ("end",)))
        self.assertIs(is_mood(code, MACHINE, mood((3,))), True)
        self.assertIs(is_mood(code, MACHINE, mood((4,))), False)

    def test_cells(self):
        self.good(mood((), (0,)), mood((), (2,)), mood((), (2, 0, 1)), mood((), (1, 2)))
        self.bad(mood((), (3,)), mood((), (-1,)), mood((), (0, 0)), mood((), (False,)), mood((), [0]), mood((), 0))
        self.assertIs(is_mood(CODE, (5, 2, 2), mood((), (2, 0))), True)
        self.assertIs(is_mood(CODE, (5, 2, 2), mood((), (2, 0, 1))), False)
        for arrays, lines in (((), 0), ((1,), 1), ((6,), 3), ((5, 5), 6), ((6, 1), 4), ((1, 1), 2)):
            code = put_at(CODE, (3,), arrays)
            self.assertEqual([is_mood(code, MACHINE, mood((), (line,))) for line in range(7)],
                             [line < lines for line in range(7)])

    def test_no_longer_than_the_machine_tells(self):
        wide = put_at(put_at(CODE, (3,), (6, 6)), (4,), (("rest",),) * 11 + (("end",),))
        for size in range(1, 5):
            lines = tuple(range(size + 1))
            self.assertIs(is_mood(wide, (1, size, 1), mood(lines[:-1])), True)
            self.assertIs(is_mood(wide, (1, size, 4), mood(lines)), False)
            self.assertIs(is_mood(wide, (1, 1, size), mood((), lines[:-1])), True)
            self.assertIs(is_mood(wide, (1, 4, size), mood((), lines)), False)

    def test_coming(self):
        self.good(*[mood((), (), coming) for coming in (
            ((0, 1),), ((0, 2),), ((2, 2),), ((0, 1), (1, 1)), ((0, 2), (2, 1)), ((0, 2), (1, 1), (2, 2)))])
        self.bad(*[mood((), (), coming) for coming in (
            ((0, 0),), ((0, 3),), ((0, -1),), ((3, 1),), ((-1, 1),), ((1, 1), (0, 1)), ((1, 1), (1, 2)), ((1, 2), (1, 1)),
            ((1, 1), (1, 1)), ((0, True),), ((False, 1),), ((0,),), ((0, 1, 1),), ([0, 1],), [(0, 1)], 0, None, (0, 1),
            ((0, 1), (1, 1), (2, 1), (3, 1)))])

    def test_of_another_length(self):
        self.bad((), ((),), ((), ()), ((), (), (), ()), [(), (), ()], None)


class Spots(Case):
    def good(self, *spots):
        for thing in spots:
            self.assertIs(is_spot(CODE, MACHINE, thing), True, thing)

    def bad(self, *things):
        for thing in things:
            self.assertIs(is_spot(CODE, MACHINE, thing), False, thing)

    def test_rows(self):
        self.good((0, (), EMPTY), (5, (), EMPTY))
        self.bad((-1, (), EMPTY), (6, (), EMPTY), (False, (), EMPTY), (None, (), EMPTY), ("0", (), EMPTY), ((0,), (), EMPTY))

    def test_lefts(self):
        self.good(*[(1, (left,), EMPTY) for left in (1, 2, 3)])
        self.good(*[(row, (left, other), EMPTY) for row in (2, 3) for left in (1, 2, 3) for other in (1, 2)])
        self.good((4, (3,), EMPTY), (4, (1,), EMPTY))
        self.bad((1, (), EMPTY), (1, (0,), EMPTY), (1, (4,), EMPTY), (1, (1, 1), EMPTY), (1, (True,), EMPTY), (1, [1], EMPTY))
        self.bad((2, (), EMPTY), (2, (1,), EMPTY), (2, (0, 1), EMPTY), (2, (1, 0), EMPTY), (2, (3, 3), EMPTY), (2, (4, 2), EMPTY),
                 (2, (1, 1, 1), EMPTY), (4, (1, 1), EMPTY), (0, (1,), EMPTY), (5, (1,), EMPTY), (0, None, EMPTY))

    def test_of_another_length(self):
        self.bad((), (0,), (0, ()), (0, (), EMPTY, ()), [0, (), EMPTY], None)

    def test_of_anything(self):
        spot = (2, (3, 1), ((0, 2), (1,), ((0, 1), (2, 2))))
        self.good(spot)
        for thing in ANYTHING + warped(spot):
            self.truth(is_spot(CODE, MACHINE, thing))
            self.truth(is_mood(CODE, MACHINE, thing))
        self.bad(*unlikely(spot))
        self.bad(*ANYTHING)
        for thing in unlikely(spot[2]):
            self.assertIs(is_mood(CODE, MACHINE, thing), False)

    def test_whether_come_to_or_not(self):
        self.good((5, (), ((0,), (2,), ((2, 2),))))

    def test_refused_in_order(self):
        for call in (is_mood, is_spot):
            for thing in ANYTHING:
                self.refuses(NoCode, call, thing, None, None)
                self.refuses(NoCode, call, thing, MACHINE, BEGIN)
                if thing != (1, 2, 3):
                    self.refuses(NoMachine, call, CODE, thing, None)
            self.refuses(NoMachine, call, CODE, (0, 1, 1), BEGIN)


if __name__ == "__main__":
    unittest.main()
