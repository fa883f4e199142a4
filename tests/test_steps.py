import unittest

from pacebond.errors import NoChoice, NoCode, NoMachine, NoSpot
from pacebond.machine.moods import BEGIN, EMPTY, is_spot
from pacebond.machine.steps import choices_at, step, steps_from
from tests.samples import ANYTHING, Case, Picks, picked_code

END = ("end",)
REST = ("rest",)
FAR = (5, 2, 2)


def of(*rows, many=4, arrays=(3, 6)):
    return ((), many, 0, arrays, rows + (END,))


def near(*lines, cells=(), coming=()):
    return (lines, cells, coming)


class Steps(Case):
    def tells(self, code, spot, choice, wanted, machine=FAR):
        self.same(step(code, machine, spot, choice), wanted)

    def behind(self, code, at, mood, choice=0, lefts=(), machine=FAR):
        """The spot behind a step."""
        return step(code, machine, (at, lefts, mood), choice)[4]


class Fetches(Steps):
    def test_miss_and_hit(self):
        code = of(REST, REST, REST)
        self.tells(code, BEGIN, 0, (5, 0, 0, 1, (1, (), near(0, 1))))
        self.tells(code, (1, (), near(0, 1)), 0, (0, 0, 0, 1, (2, (), near(0, 1))))
        self.tells(code, (2, (), near(0, 1)), 0, (0, 0, 0, 1, (3, (), near(1, 0))))
        self.tells(code, (3, (), near(0)), 0, (5, 0, 0, 1, None))

    def test_far(self):
        for far in (1, 7, 20):
            self.tells(of(), BEGIN, 0, (far, 0, 0, 1, None), (far, 1, 1))
            self.tells(of(), (0, (), near(0)), 0, (0, 0, 0, 1, None), (far, 1, 1))

    def test_the_next_line_comes_with_a_miss(self):
        code = of(*[REST] * 6)
        for size, store in ((1, (1,)), (2, (1, 2)), (3, (1, 2)), (4, (1, 2))):
            self.tells(code, (2, (), EMPTY), 0, (5, 0, 0, 1, (3, (), near(*store))), (5, size, 1))
        self.same(self.behind(code, 2, near(3, 0)), (3, (), near(1, 2)))
        self.same(self.behind(code, 2, near(3, 0), machine=(5, 3, 1)), (3, (), near(1, 2, 3)))
        self.same(self.behind(code, 2, near(3, 2, 0), machine=(5, 3, 1)), (3, (), near(1, 2, 3)))
        self.same(self.behind(code, 2, near(2, 3, 0), machine=(5, 4, 1)), (3, (), near(1, 2, 3, 0)))

    def test_a_hit_brings_no_line(self):
        code = of(*[REST] * 6)
        self.same(self.behind(code, 2, near(1)), (3, (), near(1)))
        self.same(self.behind(code, 2, near(3, 1)), (3, (), near(1, 3)))

    def test_behind_the_last_line_there_is_none(self):
        self.same(self.behind(of(REST, REST, REST), 2, near(0)), (3, (), near(1, 0)))
        self.same(self.behind(of(REST, REST), 0, near()), (1, (), near(0, 1)))
        self.same(self.behind(of(REST), 0, near()), (1, (), near(0)))


class Waits(Steps):
    COMING = ((0, 1), (1, 2), (3, 2))

    def waits(self, row, coming=COMING, fetched=False, far=1):
        code = of(row, REST, REST, REST)
        mood = near(*(() if fetched else (0,)), coming=coming)
        return step(code, (far, 1, 1), (0, (), mood), 0)[1]

    def test_of_each_kind_of_row(self):
        for row, wait in (
            (("set", 1, 3), 0), (("copy", 1, 0), 1), (("copy", 0, 1), 2), (("copy", 0, 2), 0), (("get", 1, 0, 0), 1),
            (("get", 0, 0, 1), 2), (("get", 1, 0, 2), 0), (("put", 0, 1, 2), 2), (("put", 0, 2, 1), 2), (("put", 0, 2, 0), 1),
            (("put", 1, 0, 1), 2), (("put", 1, 2, 2), 0), (("test", 0, 2), 1), (("test", 1, 2), 2), (("test", 2, 2), 0),
            (("go", 1), 0), (REST, 0),
        ):
            self.same(self.waits(row), wait)
        for word in "+-*<=":
            for row, wait in (((word, 1, 2, 2), 0), ((word, 2, 0, 2), 1), ((word, 2, 2, 0), 1), ((word, 2, 0, 1), 2),
                              ((word, 2, 1, 0), 2), ((word, 2, 3, 3), 2)):
                self.same(self.waits(row), wait)

    def test_of_count_again_and_end(self):
        loop = of(("count", 2), ("again", 1), many=1)
        coming = ((0, 2),)
        self.same(step(loop, FAR, (0, (), near(0, coming=coming)), 0), (0, 0, 0, 1, (1, (2,), near(0, coming=((0, 1),)))))
        self.same(step(loop, FAR, (1, (2,), near(0, coming=coming)), 0), (0, 0, 0, 2, (1, (1,), near(0))))
        self.same(step(loop, FAR, (2, (), near(1, coming=coming)), 0), (0, 0, 0, 1, None))

    def test_shortened_by_fetch(self):
        for far, waits in ((1, (0, 1)), (2, (0, 0)), (3, (0, 0)), (20, (0, 0))):
            self.same(self.waits(("copy", 2, 0), fetched=True, far=far), waits[0])
            self.same(self.waits(("copy", 2, 1), fetched=True, far=far), waits[1])
            self.same(self.waits(("+", 2, 0, 1), fetched=True, far=far), waits[1])

    def test_the_ticks_of_a_step_are_these_together(self):
        code = of(("put", 0, 1, 1), ("rest",))
        spot = (0, (), near(coming=((0, 2), (1, 2))))
        self.tells(code, spot, 0, (1, 1, 1, 1, (1, (), near(0, cells=(0,)))), (1, 1, 1))


class Coming(Steps):
    def test_behind_times_and_get(self):
        self.same(self.behind(of(("*", 2, 0, 1)), 0, near(0)), (1, (), near(0, coming=((2, 2),))))
        self.same(self.behind(of(("get", 2, 0, 1)), 0, near(0)), (1, (), near(0, cells=(0,), coming=((2, 1),))))
        for row in (("set", 2, 1), ("copy", 2, 0), ("+", 2, 0, 1), ("-", 2, 0, 1), ("<", 2, 0, 1), ("=", 2, 0, 1),
                    ("put", 0, 2, 1), ("test", 2, 1), ("go", 1), REST):
            self.same(self.behind(of(row), 0, near(0))[2][2], ())

    def test_less_by_the_ticks(self):
        coming = ((0, 1), (3, 2))
        self.same(self.behind(of(REST), 0, near(0, coming=coming)), (1, (), near(0, coming=((3, 1),))))
        self.same(self.behind(of(("go", 2), REST), 0, near(0, coming=coming)), (2, (), near(0)))
        self.same(self.behind(of(REST), 0, near(coming=coming), machine=(1, 1, 1)), (1, (), near(0)))
        # the wait counts, too
        self.same(self.behind(of(("copy", 1, 0)), 0, near(0, coming=coming)), (1, (), near(0)))
        # the miss of a cell, too
        self.same(self.behind(of(("put", 0, 1, 1)), 0, near(0, coming=coming), machine=(1, 1, 1)),
                  (1, (), near(0, cells=(0,))))
        self.same(self.behind(of(("put", 0, 1, 1)), 0, near(0, cells=(0,), coming=coming), machine=(1, 1, 1)),
                  (1, (), near(0, cells=(0,), coming=((3, 1),))))

    def test_a_register_given_anew(self):
        coming = ((1, 2), (2, 2))
        for row in (("set", 2, 1), ("copy", 2, 0), ("+", 2, 0, 0), ("<", 2, 0, 0)):
            self.same(self.behind(of(row), 0, near(0, coming=coming)), (1, (), near(0, coming=((1, 1),))))
        self.same(self.behind(of(("*", 2, 0, 0)), 0, near(0, coming=coming)), (1, (), near(0, coming=((1, 1), (2, 2)))))
        self.same(self.behind(of(("get", 2, 0, 0)), 0, near(0, cells=(0,), coming=coming)),
                  (1, (), near(0, cells=(0,), coming=((1, 1), (2, 1)))))
        self.same(self.behind(of(("*", 2, 2, 2)), 0, near(0, coming=coming)), (1, (), near(0, coming=((2, 2),))))

    def test_rising(self):
        self.same(self.behind(of(("*", 0, 1, 1)), 0, near(0, coming=((2, 2), (3, 2)))),
                  (1, (), near(0, coming=((0, 2), (2, 1), (3, 1)))))
        self.same(self.behind(of(("get", 1, 0, 1)), 0, near(0, cells=(0,), coming=((0, 2), (3, 2)))),
                  (1, (), near(0, cells=(0,), coming=((0, 1), (1, 1), (3, 1)))))


class Cells(Steps):
    def test_miss_and_hit(self):
        for row, coming in ((("get", 2, 1, 0), ((2, 1),)), (("put", 1, 2, 0), ())):
            code = of(row)
            for cells, choice, cell, store in (
                ((), 0, 5, (2,)), ((), 2, 5, (4,)), ((3,), 1, 0, (3,)), ((3, 2), 0, 0, (2, 3)), ((0, 1), 1, 5, (3, 0)),
            ):
                self.tells(code, (0, (), near(0, cells=cells)), choice,
                           (0, 0, cell, 1, (1, (), near(0, cells=store, coming=coming))))

    def test_lines_of_each_array(self):
        for array, lines in ((0, (0, 1)), (1, (2, 3, 4))):
            for row in (("get", 2, array, 0), ("put", array, 0, 2)):
                told = steps_from(of(row), FAR, BEGIN)
                self.same([one[4][2][1] for one in told], [(line,) for line in lines])

    def test_a_miss_of_a_cell_brings_no_line(self):
        self.tells(of(("put", 1, 0, 0)), (0, (), near(0)), 0, (0, 0, 5, 1, (1, (), near(0, cells=(2,)))), (5, 1, 4))

    def test_fetch_and_cell(self):
        self.tells(of(("get", 0, 0, 1)), BEGIN, 1, (7, 0, 7, 1, (1, (), near(0, cells=(1,), coming=((0, 1),)))), (7, 1, 1))

    def test_cells_stay_behind_other_rows(self):
        self.same(self.behind(of(REST), 0, near(0, cells=(3, 1))), (1, (), near(0, cells=(3, 1))))

    def test_cells_near_in_the_size_of_the_machine(self):
        for size, store in ((1, (0,)), (2, (0, 4)), (3, (0, 4, 3)), (4, (0, 4, 3, 2))):
            told = self.behind(of(("put", 0, 0, 0)), 0, near(0, cells=(4, 3, 2)[:size]), machine=(5, 1, size))
            self.same(told, (1, (), near(0, cells=store)))


class Works(Steps):
    def test_goes_on(self):
        for row in (("set", 0, 0), ("copy", 0, 1), ("+", 0, 0, 1), REST, ("count", 3)):
            code = of(row, REST, ("again", 1)) if row[0] == "count" else of(row)
            self.same(step(code, FAR, (0, (), near(0)), 0)[3], 1)

    def test_jumps(self):
        code = of(("test", 0, 2), ("go", 3), REST)
        self.tells(code, (0, (), near(0)), 0, (0, 0, 0, 1, (1, (), near(0))))
        self.tells(code, (0, (), near(0)), 1, (0, 0, 0, 2, (2, (), near(0))))
        self.tells(code, (1, (), near(0)), 0, (0, 0, 0, 2, (3, (), near(0))))

    def test_jumps_to_the_next_row(self):
        self.tells(of(("go", 1)), (0, (), near(0)), 0, (0, 0, 0, 1, (1, (), near(0))))
        for choice in (0, 1):
            self.tells(of(("test", 0, 1)), (0, (), near(0)), choice, (0, 0, 0, 1, (1, (), near(0))))

    def test_again(self):
        code = of(("count", 3), REST, ("again", 1))
        self.tells(code, (2, (3,), near(1)), 0, (0, 0, 0, 2, (1, (2,), near(1))))
        self.tells(code, (2, (2,), near(1)), 0, (0, 0, 0, 2, (1, (1,), near(1))))
        self.tells(code, (2, (1,), near(1)), 0, (0, 0, 0, 1, (3, (), near(1))))
        own = of(("count", 3), ("again", 1))
        self.tells(own, (1, (2,), near(0)), 0, (0, 0, 0, 2, (1, (1,), near(0))))

    def test_end(self):
        self.tells(of(), (0, (), near(0, cells=(1,), coming=((0, 2),))), 0, (0, 0, 0, 1, None))
        self.tells(of(), (0, (), near(coming=((0, 2),))), 0, (5, 0, 0, 1, None))


class Lefts(Steps):
    LOOPS = of(
        ("count", 6),      # 0
        ("test", 0, 9),    # 1
        ("count", 4),      # 2
        ("test", 0, 6),    # 3
        ("test", 0, 9),    # 4
        ("again", 3),      # 5
        ("go", 7),         # 6
        ("again", 1),      # 7
        REST,              # 8
    )

    def goes(self, at, lefts, choice=0):
        return step(self.LOOPS, FAR, (at, lefts, EMPTY), choice)[4][:2]

    def test_behind_a_count(self):
        self.same(self.goes(0, ()), (1, (6,)))
        self.same(self.goes(2, (5,)), (3, (5, 4)))

    def test_behind_an_again(self):
        self.same(self.goes(5, (5, 4)), (3, (5, 3)))
        self.same(self.goes(5, (5, 2)), (3, (5, 1)))
        self.same(self.goes(5, (5, 1)), (6, (5,)))
        self.same(self.goes(7, (2,)), (1, (1,)))
        self.same(self.goes(7, (1,)), (8, ()))

    def test_out_of_loops(self):
        self.same(self.goes(1, (3,), 1), (9, ()))
        self.same(self.goes(3, (3, 2), 1), (6, (3,)))
        self.same(self.goes(4, (3, 2), 1), (9, ()))

    def test_within_loops(self):
        self.same(self.goes(1, (3,)), (2, (3,)))
        self.same(self.goes(3, (3, 2)), (4, (3, 2)))
        self.same(self.goes(6, (3,)), (7, (3,)))
        self.same(self.goes(8, ()), (9, ()))

    def test_from_one_count_to_another(self):
        code = of(("count", 2), ("go", 3), ("again", 1), ("count", 3), ("again", 4))
        self.same(step(code, FAR, (1, (2,), EMPTY), 0)[4][:2], (3, ()))
        self.same(step(code, FAR, (3, (), EMPTY), 0)[4][:2], (4, (3,)))
        self.same(step(code, FAR, (2, (1,), EMPTY), 0)[4][:2], (3, ()))


class Choices(Steps):
    def test_how_many(self):
        for size, many in ((1, 1), (2, 1), (3, 2), (4, 2), (5, 3), (6, 3)):
            self.same(choices_at(of(("get", 0, 0, 0), arrays=(size,)), FAR, BEGIN), many)
            self.same(choices_at(of(("put", 1, 0, 0), arrays=(6, size)), FAR, BEGIN), many)
        self.same(choices_at(of(("test", 0, 2), REST), FAR, BEGIN), 2)
        self.same(choices_at(of(("test", 0, 1)), FAR, BEGIN), 2)
        for row in (("set", 0, 0), ("copy", 0, 1), ("*", 0, 0, 1), ("go", 1), REST):
            self.same(choices_at(of(row), FAR, BEGIN), 1)
        loop = of(("count", 2), ("again", 1))
        self.same([choices_at(loop, FAR, spot) for spot in ((0, (), EMPTY), (1, (2,), EMPTY), (2, (), EMPTY))], [1, 1, 1])

    def test_steps_from(self):
        self.same(steps_from(of(("test", 0, 2), REST), FAR, BEGIN),
                  ((5, 0, 0, 1, (1, (), near(0, 1))), (5, 0, 0, 2, (2, (), near(0, 1)))))
        self.same(steps_from(of(), FAR, BEGIN), ((5, 0, 0, 1, None),))
        code = of(("get", 0, 1, 0), arrays=(1, 5))
        self.same(steps_from(code, FAR, BEGIN), tuple([step(code, FAR, BEGIN, choice) for choice in range(3)]))

    def test_choices_that_are_none(self):
        for code, many in ((of(REST), 1), (of(("test", 0, 1)), 2), (of(("get", 0, 1, 0)), 3), (of(), 1)):
            for thing in ANYTHING + [2, 3, 4]:
                if type(thing) is int and 0 <= thing < many:
                    step(code, FAR, BEGIN, thing)
                else:
                    self.refuses(NoChoice, step, code, FAR, BEGIN, thing)

    def test_spots_that_are_none(self):
        for thing in ANYTHING + [(0, (1,), EMPTY), (2, (), EMPTY), (0, (), near(7))]:
            self.refuses(NoSpot, choices_at, of(REST), FAR, thing)
            self.refuses(NoSpot, steps_from, of(REST), FAR, thing)
            self.refuses(NoSpot, step, of(REST), FAR, thing, None)

    def test_refused_in_order(self):
        for thing in ANYTHING:
            for call, more in ((choices_at, ()), (steps_from, ()), (step, (None,))):
                self.refuses(NoCode, call, thing, None, None, *more)
                if thing != (1, 2, 3):
                    self.refuses(NoMachine, call, of(), thing, None, *more)


class Hang(Steps):
    def test_steps_lead_to_spots(self):
        for seed in range(30):
            picks = Picks(seed)
            code = picked_code(picks)
            machine = (1 + picks.below(3), 1 + picks.below(4), 1 + picks.below(4))
            spot = BEGIN
            while spot is not None:
                self.assertIs(is_spot(code, machine, spot), True)
                told = steps_from(code, machine, spot)
                self.assertEqual(len(told), choices_at(code, machine, spot))
                spot = picks.one(told)[4]


if __name__ == "__main__":
    unittest.main()
