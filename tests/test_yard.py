import unittest

from pacebond.bench.bench import Bench
from pacebond.bench.yard import Yard
from pacebond.bounds.longest import bound_of
from pacebond.bounds.worst import slack_of, worst_of
from pacebond.codes.made import made
from pacebond.codes.runs import run
from pacebond.cuts.cuts import cut_of
from pacebond.errors import (
    NoCode, NoDeed, NoInput, NoMachine, NoMost, NoName, NoPasses, NoProgram, NoRow, NoShare, NoWork, PaceError, TooLong, TooMany,
    TooWide, WalkError)
from pacebond.machine.walks import spots_of, ticks_of, walk_of
from pacebond.passes.tuned import tuned
from pacebond.sure.hits import sure_rows
from pacebond.wire.together import joined_of
from tests.samples import ANYTHING, Case, Picks, unlikely

REST = ("rest",)
MACHINE = (3, 2, 1)
# f from 0 to 3, twice over
TWICE = ((("f", 0, 3),), (), (("set", "f", ("+", "f", "f")),))
DOWN = ((("x", 0, 9),), (("a", 4),), (("loop", 3, "x", (("set", "x", ("-", "x", 1)),)), ("put", "a", 0, "x")))
NONE = ((), (), ())
MANY_INPUTS = ((("x", 0, 20), ("y", 0, 20)), (), ())
PUT = ("set", "x", ("+", ("+", ("+", ("+", 1, 1), 1), 1), 1))
LONG = ((), (), (PUT,) * 7)
WIDE = ((), (("a", 6),), (("loop", 6, 1, (("loop", 6, 1, (("set", "x", ("at", "a", "x")),) * 8),)),))

# Names that are none, and such as no work has; of anything.
NO_NAMES = [thing for thing in ANYTHING if not (type(thing) is str and thing in ("a", "b", "set", "end"))]


def code_of(program):
    return made(program)


class Shape:
    """All that a yard tells without being changed."""

    def __init__(self, yard):
        self.told = (yard.names(), len(yard), repr(yard), yard.runs(), [
            (name, yard.program(name), yard.code(name), yard.bound(name), yard.joined(name)) for name in yard.names()])


class Yards(Case):
    def unchanged(self, yard, call):
        ahead = Shape(yard).told
        call()
        self.same(Shape(yard).told, ahead)

    def begun(self, *programs, machine=MACHINE, most=1000):
        yard = Yard(machine, most=most)
        for name, program in zip("abcd", programs):
            yard.write(name, program)
        return yard

    def logged(self, yard, *wanted):
        """The last rows of the log, "write done" and the like, each behind its beginning."""
        rows = []
        for one in wanted:
            word, end = one.split(" ")
            rows.extend([(word, "in"), (word, end)])
        self.same(yard.log()[len(yard.log()) - len(rows):], tuple(rows))


class Written(Yards):
    def test_empty(self):
        yard = Yard(MACHINE)
        self.same((yard.names(), yard.log(), yard.runs(), len(yard)), ((), (), (), 0))
        self.assertEqual(repr(yard), "Yard(0 works)")

    def test_write(self):
        yard = Yard(MACHINE)
        self.same(yard.write("b", DOWN), len(made(DOWN)[4]))
        self.same(yard.write("a", NONE), 1)
        self.same(yard.names(), ("a", "b"))
        self.same(yard.program("b"), DOWN)
        self.same(yard.code("b"), made(DOWN))
        self.same(yard.bound("b"), bound_of(made(DOWN), MACHINE))
        self.same(len(yard), 2)
        self.assertEqual(repr(yard), "Yard(2 works)")
        self.logged(yard, "write done", "write done")

    def test_a_name_that_is_there(self):
        yard = self.begun(DOWN, TWICE, NONE, NONE)
        self.same(yard.write("a", TWICE), len(made(TWICE)[4]))
        self.same(yard.names(), ("a", "b", "c", "d"))
        self.same((yard.program("a"), yard.code("a")), (TWICE, made(TWICE)))
        # begun anew: what changed the one that stood there is none of it
        yard.change("a", 0, REST)
        yard.write("a", TWICE)
        self.same((yard.program("a"), yard.code("a")), (TWICE, made(TWICE)))

    def test_a_fifth(self):
        yard = self.begun(DOWN, TWICE, NONE, NONE)
        self.unchanged(yard, lambda: self.refuses(TooMany, yard.write, "e", NONE))
        yard.drop("c")
        self.same(yard.write("e", NONE), 1)
        self.same(yard.names(), ("a", "b", "d", "e"))

    def test_refused(self):
        for yard in (Yard(MACHINE), self.begun(DOWN), self.begun(DOWN, NONE, NONE, NONE)):
            for thing in ANYTHING + ["abcdefg", "A", "a1", "at"]:
                if not (type(thing) is str and thing in ("a", "b", "set", "end")):
                    self.unchanged(yard, lambda: self.refuses(NoName, yard.write, thing, None))
                self.unchanged(yard, lambda: self.refuses(NoProgram, yard.write, "a", thing))
                self.refuses(NoProgram, yard.write, "eeee", thing)
                self.logged(yard, "write refused", "write refused")
            for thing in unlikely(DOWN):
                self.refuses(NoProgram, yard.write, "a", thing)

    def test_too_long_and_too_wide(self):
        for many, name in ((0, "a"), (1, "a"), (3, "d")):
            yard = self.begun(*[NONE] * many)
            self.refuses(TooLong, made, LONG)
            self.unchanged(yard, lambda: self.refuses(TooLong, yard.write, name, LONG))
            self.refuses(TooWide, bound_of, made(WIDE), MACHINE)
            self.unchanged(yard, lambda: self.refuses(TooWide, yard.write, name, WIDE))
            self.logged(yard, "write refused", "write refused")
        # of a fifth one it is too many ahead of these, but behind what is no program
        yard = self.begun(NONE, NONE, NONE, NONE)
        self.refuses(TooMany, yard.write, "e", LONG)
        self.refuses(TooMany, yard.write, "e", WIDE)
        self.refuses(NoProgram, yard.write, "e", None)
        self.refuses(TooLong, yard.write, "d", LONG)

    def test_most(self):
        many = len(spots_of(made(DOWN), MACHINE))
        yard = Yard(MACHINE, most=many)
        yard.write("a", DOWN)
        yard = Yard(MACHINE, most=many - 1)
        self.refuses(TooWide, yard.write, "a", DOWN)
        self.same(len(yard), 0)


class Tuned(Yards):
    PASSES = (("laid", 1), ("turned", 0), ("exchanged", 0), ("dropped",))

    def test_tune(self):
        yard = self.begun(DOWN)
        code, rows = tuned(made(DOWN), MACHINE, self.PASSES)
        told = yard.tune("a", self.PASSES)
        self.same(told, tuple([word for word, _, _ in rows]))
        self.assertGreater(len(set(told)), 1)
        self.same(yard.code("a"), code)
        self.same(yard.bound("a"), bound_of(code, MACHINE))
        # what it tells is what its program tells
        self.same(yard.program("a"), DOWN)
        self.same(yard.tune("a", ()), ())
        self.logged(yard, "tune done", "tune done")

    def test_changed_behind_tune(self):
        yard = self.begun(DOWN)
        yard.tune("a", self.PASSES)
        code = yard.code("a")
        self.same(yard.change("a", 1, REST), Bench(code, MACHINE).change(1, REST))
        yard.back()
        self.same(yard.code("a"), code)
        yard.back()
        self.same(yard.code("a"), made(DOWN))

    def test_by_most(self):
        code = made(DOWN)
        many = len(spots_of(code, MACHINE))
        passes = (("turned", 0),)
        yard = self.begun(DOWN, most=many)
        self.same(yard.tune("a", passes), tuple([word for word, _, _ in tuned(code, MACHINE, passes, most=many)[1]]))

    def test_refused(self):
        yard = self.begun(DOWN)
        for thing in NO_NAMES + ["zz"]:
            self.unchanged(yard, lambda: self.same(self.refuses(NoWork, yard.tune, thing, None).name, thing))
        for thing in ANYTHING + [(("laid",),), (("dropped",),) * 21, ("dropped",)]:
            if thing != ():
                self.unchanged(yard, lambda: self.refuses(NoPasses, yard.tune, "a", thing))
        self.logged(yard, "tune refused", "tune refused")


class Changed(Yards):
    def test_change(self):
        yard = self.begun(DOWN, TWICE)
        bench = Bench(made(DOWN), MACHINE)
        for row, new in ((5, REST), (5, ("set", 1, 9)), (1, ("test", 1, 5)), (3, ("-", 0, 0, 0))):
            self.same(yard.change("a", row, new), bench.change(row, new))
            self.same((yard.code("a"), yard.bound("a")), (bench.code(), bench.bound()))
        self.same(yard.code("b"), made(TWICE))
        self.logged(yard, "change done")

    def test_no_program_as_long_as_that_stands(self):
        yard = self.begun(DOWN, TWICE)
        # of the very row that stood there, too
        yard.change("a", 5, made(DOWN)[4][5])
        self.same((yard.program("a"), yard.program("b")), (None, TWICE))
        yard.change("a", 5, REST)
        yard.tune("a", (("dropped",),))
        self.same(yard.program("a"), None)
        for _ in range(2):
            yard.back()
            self.same(yard.program("a"), None)
        yard.back()
        self.same((yard.program("a"), yard.code("a")), (DOWN, made(DOWN)))
        yard.change("a", 5, REST)
        yard.write("a", DOWN)
        self.same(yard.program("a"), DOWN)
        yard.back()
        self.same((yard.program("a"), yard.code("a")[4][5]), (None, REST))

    def test_its_code_tells_what_it_tells(self):
        yard = self.begun(TWICE)
        self.same(yard.told("a", (3,))[0], ((6,), ()))
        yard.change("a", 0, ("*", 0, 0, 0))
        self.same(yard.told("a", (3,))[0], ((9,), ()))

    def test_refused(self):
        yard = self.begun(DOWN)
        for thing in NO_NAMES + ["zz"]:
            self.unchanged(yard, lambda: self.same(self.refuses(NoWork, yard.change, thing, None, None).name, thing))
        for thing in ANYTHING + [8]:
            if not (type(thing) is int and 0 <= thing < 8):
                self.unchanged(yard, lambda: self.same(self.refuses(NoRow, yard.change, "a", thing, None).number, thing))
            self.unchanged(yard, lambda: self.refuses(NoCode, yard.change, "a", 0, thing))
        self.logged(yard, "change refused")
        # what is refused doesn't stand, so the program does, and back undoes the write
        self.same(yard.program("a"), DOWN)
        yard.back()
        self.same(yard.names(), ())

    def test_too_wide(self):
        program = ((), (("a", 6),), (("put", "a", 0, 1), ("put", "a", 0, 1), ("put", "a", 0, 1)))
        yard = self.begun(program, most=len(spots_of(made(program), MACHINE)))
        self.unchanged(yard, lambda: self.refuses(TooWide, yard.change, "a", 0, ("get", 0, 0, 0)))
        self.same(yard.program("a"), program)
        self.logged(yard, "change refused")


class Dropped(Yards):
    def test_drop(self):
        yard = self.begun(DOWN, TWICE)
        self.assertIs(yard.drop("a"), None)
        self.same(yard.names(), ("b",))
        self.same(self.refuses(NoWork, yard.code, "a").name, "a")
        self.same(self.refuses(NoWork, yard.drop, "a").name, "a")
        self.logged(yard, "drop done", "drop refused")
        for thing in NO_NAMES:
            self.unchanged(yard, lambda: self.same(self.refuses(NoWork, yard.drop, thing).name, thing))


class Undone(Yards):
    def test_each_deed(self):
        yard = self.begun(DOWN)
        for deed in (
            lambda: yard.write("b", TWICE), lambda: yard.write("a", TWICE), lambda: yard.tune("a", (("dropped",), ("turned", 0))),
            lambda: yard.change("a", 5, REST), lambda: yard.drop("a"),
        ):
            ahead = Shape(yard).told
            deed()
            self.assertNotEqual(repr(Shape(yard).told), repr(ahead))
            self.assertIs(yard.back(), None)
            self.same(Shape(yard).told, ahead)

    def test_one_by_one_and_once_too_often(self):
        yard = self.begun()
        stood = [Shape(yard).told]
        for deed in (
            lambda: yard.write("a", DOWN), lambda: yard.change("a", 0, ("count", 2)), lambda: yard.change("a", 5, REST),
            lambda: yard.write("a", TWICE), lambda: yard.change("a", 0, REST), lambda: yard.drop("a"), lambda: yard.write("a", DOWN),
            lambda: yard.tune("a", (("turned", 0),)), lambda: yard.change("a", 0, REST), lambda: yard.write("b", NONE),
            lambda: yard.drop("a"), lambda: yard.drop("b"),
        ):
            deed()
            stood.append(Shape(yard).told)
        while len(stood) > 1:
            self.same(Shape(yard).told, stood.pop())
            yard.back()
        self.same(Shape(yard).told, stood[0])
        for _ in range(2):
            self.unchanged(yard, lambda: self.refuses(NoDeed, yard.back))
        self.logged(yard, "back done", "back refused", "back refused")

    def test_back_itself_is_none(self):
        yard = self.begun(DOWN, TWICE, NONE)
        yard.back()
        yard.back()
        self.same(yard.names(), ("a",))
        yard.write("b", NONE)
        yard.back()
        yard.back()
        self.same(yard.names(), ())

    def test_deeds_that_change_nothing_are_taken_back_too(self):
        yard = self.begun(DOWN)
        yard.write("a", DOWN)
        yard.tune("a", ())
        yard.tune("a", (("exchanged", 0),))
        for _ in range(3):
            self.same((yard.names(), yard.code("a")), (("a",), made(DOWN)))
            yard.back()
        self.same(yard.names(), ("a",))
        yard.back()
        self.same(yard.names(), ())

    def test_refused_ones_are_no_deeds(self):
        yard = self.begun(DOWN, TWICE)
        for call in (lambda: yard.write("a", None), lambda: yard.drop("z"), lambda: yard.tune("b", None), lambda: yard.change("b", 9, REST)):
            with self.assertRaises((PaceError, WalkError)):
                call()
        yard.back()
        self.same(yard.names(), ("a",))


class Runs(Yards):
    def test_what_each_tells(self):
        yard = Yard(MACHINE)
        passes = (("dropped",), ("exchanged", 0))
        told = yard.run((("write", "a", DOWN), ("write", "b", NONE), ("tune", "a", passes), ("drop", "b"), ("back",),
                         ("change", "b", 0, ("end",))))
        self.same(told, (len(made(DOWN)[4]), 1, tuple([word for word, _, _ in tuned(made(DOWN), MACHINE, passes)[1]]), None, None, 1))
        self.same(yard.names(), ("a", "b"))
        self.same(yard.runs(), (6,))
        self.logged(yard, "write done", "write done", "tune done", "drop done", "back done", "change done")

    def test_no_deeds(self):
        yard = Yard(MACHINE)
        self.same(yard.run(()), ())
        self.same(yard.runs(), (0,))
        self.same(yard.log(), ())

    def test_up_to_the_first_refused(self):
        for at, bad, error in (
            (0, ("drop", "z"), NoWork), (1, ("write", "A", DOWN), NoName), (2, ("write", "b", None), NoProgram),
            (3, ("tune", "a", None), NoPasses), (4, ("change", "a", 99, REST), NoRow), (5, ("change", "a", 0, None), NoCode),
            (3, ("write", "c", LONG), TooLong), (2, ("write", "c", WIDE), TooWide), (1, ("drop", ["z"]), NoWork),
        ):
            yard = Yard(MACHINE)
            deeds = (("write", "a", DOWN), ("write", "b", TWICE), ("change", "a", 5, REST), ("tune", "b", ()), ("drop", "b"))
            self.refuses(error, yard.run, deeds[:at] + (bad,) + deeds[at:])
            self.same(yard.runs(), (at,))
            wanted = Yard(MACHINE)
            wanted.run(deeds[:at])
            self.assertTrue(yard == wanted)
            self.same(yard.log(), wanted.log() + ((bad[0], "in"), (bad[0], "refused")))
            # those ahead stay done, and can be taken back
            for _ in range(at):
                yard.back()
            self.refuses(NoDeed, yard.back)

    def test_back_refused_in_a_run(self):
        yard = Yard(MACHINE)
        self.refuses(NoDeed, yard.run, (("back",), ("write", "a", DOWN)))
        self.same((yard.runs(), yard.names()), ((0,), ()))
        self.logged(yard, "back refused")

    def test_what_is_no_deed(self):
        for bad in ANYTHING + [("write", "b"), ("write", "b", NONE, 0), ("write",), ("tune", "a"), ("change", "a", 0), ("drop",),
                               ("change", "a", 0, REST, 0), ("drop", "a", 0), ("back", 0), "back", ["back"], ("none",), ("run", ()),
                               ("bound", "a"), ("Drop", "a"), (("drop",), "a"), (["drop"], "a"), ({}, "a"), (None,), ("", "a")]:
            yard = Yard(MACHINE)
            self.refuses(NoDeed, yard.run, (("write", "a", DOWN), bad, ("write", "b", NONE)))
            # as it comes: the one ahead of it stays done
            self.same((yard.names(), yard.runs()), (("a",), (1,)))
            self.same(yard.log(), (("write", "in"), ("write", "done"), ("none", "in"), ("none", "refused")))
            yard.back()
            self.refuses(NoDeed, yard.back)

    def test_no_row_of_deeds(self):
        yard = self.begun(DOWN)
        for thing in ANYTHING + [[("drop", "a")], {"drop": "a"}]:
            if type(thing) is not tuple:
                ahead = yard.log()
                self.unchanged(yard, lambda: self.refuses(NoDeed, yard.run, thing))
                self.same((yard.runs(), yard.log()), ((), ahead))

    def test_many_runs(self):
        yard = Yard(MACHINE)
        yard.run((("write", "a", DOWN),))
        self.refuses(NoWork, yard.run, (("write", "b", DOWN), ("back",), ("drop", "b")))
        yard.run(())
        yard.write("c", NONE)
        self.refuses(NoDeed, yard.run, None)
        yard.run((("drop", "c"), ("drop", "a")))
        self.same(yard.runs(), (1, 2, 0, 2))
        # nothing takes them back
        for _ in range(4):
            yard.back()
        self.same(yard.runs(), (1, 2, 0, 2))
        self.same(len(yard.log()), 2 * (1 + 3 + 1 + 2 + 4))

    def test_what_is_told_is_the_asker_s_own(self):
        yard = Yard(MACHINE)
        log, runs = yard.log(), yard.runs()
        yard.run((("write", "a", DOWN),))
        self.same((log, runs), ((), ()))
        self.assertIs(type(yard.log()), tuple)
        self.assertIs(type(yard.runs()), tuple)


class Asked(Yards):
    def test_each(self):
        for machine in (MACHINE, (7, 1, 2)):
            yard = self.begun(DOWN, TWICE, NONE, machine=machine)
            yard.tune("b", (("turned", 0), ("folded",)))
            yard.change("c", 0, ("end",))
            for name in "abc":
                code = yard.code(name)
                self.same(yard.bound(name), bound_of(code, machine))
                self.same(yard.worst(name), worst_of(code, machine))
                self.same(yard.slack(name), slack_of(code, machine))
                self.same(yard.sure(name), sure_rows(code, machine))
                for share in (1, 9, 13, 20, 500):
                    self.same(yard.cut(name, share), cut_of(code, machine, share))
            self.same(yard.told("a", (5,)), (run(made(DOWN), (5,)), ticks_of(made(DOWN), machine, walk_of(made(DOWN), machine, (5,)))))
            self.same(yard.told("a", (5,))[0], ((2,), ((2, 0, 0, 0),)))

    def test_joined_with_as_many_as_there_are(self):
        yard = Yard(MACHINE)
        for others, name in enumerate("abcd"):
            yard.write(name, DOWN)
            self.same(yard.joined("a"), joined_of(made(DOWN), MACHINE, others))
        yard.drop("b")
        self.same(yard.joined("a"), joined_of(made(DOWN), MACHINE, 2))

    def test_it_changes_nothing(self):
        yard = self.begun(DOWN, TWICE)
        log = yard.log()

        def ask():
            for call in (yard.program, yard.code, yard.bound, yard.worst, yard.slack, yard.joined, yard.sure):
                call("a")
                self.refuses(NoWork, call, "z")
            yard.cut("a", 9)
            yard.told("a", (1,))
            self.refuses(NoInput, yard.told, "a", (10,))
            self.refuses(NoShare, yard.cut, "a", 0)
            yard.names(), yard.runs(), yard.log(), len(yard), repr(yard), yard == yard

        self.unchanged(yard, ask)
        self.same(yard.log(), log)
        yard.back()
        self.same(yard.names(), ("a",))

    def test_no_work(self):
        for yard in (Yard(MACHINE), self.begun(DOWN)):
            for call in (yard.program, yard.code, yard.bound, yard.worst, yard.slack, yard.joined, yard.sure):
                for thing in NO_NAMES + ["zz", "at"]:
                    self.same(self.refuses(NoWork, call, thing).name, thing)
            for thing in NO_NAMES + ["zz", "at"]:
                self.same(self.refuses(NoWork, yard.cut, thing, 0).name, thing)
                self.same(self.refuses(NoWork, yard.told, thing, None).name, thing)

    def test_refused_behind_the_name(self):
        yard = self.begun(DOWN, MANY_INPUTS)
        for thing in ANYTHING:
            if not (type(thing) is int and thing >= 1):
                self.refuses(NoShare, yard.cut, "a", thing)
            if thing not in ((0,), (7,)) or type(thing) is not tuple or type(thing[0]) is bool:
                self.refuses(NoInput, yard.told, "a", thing)
        self.refuses(TooWide, yard.worst, "b")
        self.refuses(TooWide, yard.slack, "b")
        self.same(yard.told("b", (20, 20))[0], ((20, 20), ()))

    def test_cut_is_too_wide_by_most(self):
        # begun behind the first put there are more spots than begun at row 0, as the cell isn't near yet
        program = ((("p", 0, 1),), (("a", 1),), (("put", "a", "p", "p"), ("if", "p", (("put", "a", "p", "p"),), ()),
                                                 *[("set", "p", 0)] * 6))
        yard = self.begun(program, most=len(spots_of(made(program), MACHINE)))
        self.same(yard.bound("a"), bound_of(made(program), MACHINE))
        self.refuses(TooWide, yard.cut, "a", 5)
        self.refuses(NoShare, yard.cut, "a", 0)
        yard = self.begun(program)
        self.same(yard.cut("a", 5), cut_of(made(program), MACHINE, 5))


class Equal(Yards):
    def test_equal(self):
        yard = self.begun(DOWN, TWICE)
        other = Yard(MACHINE)
        self.assertIs(yard == other, False)
        other.write("b", TWICE)
        other.write("c", NONE)
        other.write("a", DOWN)
        self.assertIs(yard == other, False)
        other.drop("c")
        # whatever was done on the way, and in whatever order
        self.assertIs(yard == other, True)
        self.assertIs(yard != other, False)
        self.assertNotEqual(yard.log(), other.log())

    def test_unlike(self):
        yard = self.begun(DOWN)
        for other in (self.begun(TWICE), self.begun(DOWN, machine=(3, 2, 2)), self.begun(DOWN, most=999), self.begun(DOWN, NONE)):
            self.assertIs(yard == other, False)
            self.assertIs(other == yard, False)
            self.assertIs(yard != other, True)
        other = Yard(MACHINE)
        other.write("b", DOWN)
        self.assertIs(yard == other, False)

    def test_equal_codes_of_unlike_programs(self):
        # the one has no program any more, though its code is the same
        yard, other = self.begun(DOWN), self.begun(DOWN)
        other.change("a", 0, made(DOWN)[4][0])
        self.assertEqual(yard.code("a"), other.code("a"))
        self.assertIs(yard == other, False)
        yard.change("a", 3, made(DOWN)[4][3])
        self.assertIs(yard == other, True)
        # the same program, another code
        yard, other = self.begun(DOWN), self.begun(DOWN)
        other.tune("a", (("turned", 0),))
        self.assertEqual(yard.program("a"), other.program("a"))
        self.assertIs(yard == other, yard.code("a") == other.code("a"))
        self.assertIs(yard == other, False)

    def test_things_of_all_kinds(self):
        yard = self.begun(DOWN)
        for thing in ANYTHING + [repr(yard), yard.names(), MACHINE, Bench(made(DOWN), MACHINE), object()]:
            self.assertIs(yard == thing, False)
            self.assertIs(thing == yard, False)


class Begun(Yards):
    def test_refused(self):
        for thing in ANYTHING:
            if thing != (1, 2, 3):
                self.refuses(NoMachine, Yard, thing, most=0)
            if not (type(thing) is int and 1 <= thing <= 5000):
                self.refuses(NoMost, Yard, MACHINE, most=thing)
        Yard(MACHINE, most=1)
        Yard(MACHINE, most=5000)

    def test_picked_deeds(self):
        """A yard against one that begins anew from the deeds that stand."""
        for seed in range(40):
            picks = Picks(seed)
            yard, stand = Yard(MACHINE), []
            for _ in range(14):
                name = picks.one("abcde")
                deed = picks.one([
                    ("write", name, picks.one([DOWN, TWICE, NONE])), ("tune", name, picks.one([(), (("turned", 0), ("dropped",))])),
                    ("change", name, picks.below(4), picks.one([REST, ("set", 0, 1)])), ("drop", name), ("back",), ("back",)])
                try:
                    yard.run((deed,))
                except (PaceError, WalkError):
                    continue
                if deed == ("back",):
                    stand.pop()
                else:
                    stand.append(deed)
                anew = Yard(MACHINE)
                anew.run(tuple(stand))
                self.assertTrue(yard == anew)
                self.same(Shape(yard).told[:3], Shape(anew).told[:3])
                self.same(Shape(yard).told[4], Shape(anew).told[4])


if __name__ == "__main__":
    unittest.main()
