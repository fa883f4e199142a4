"""What all parts tell of one thing belongs together."""

import unittest

from pacebond.bench.bench import Bench
from pacebond.bench.yard import Yard
from pacebond.bounds.heights import heights_of
from pacebond.bounds.longest import bound_of, longest, shows_longest
from pacebond.bounds.worst import sharp, shows_sharp, slack_of, spread_of, worst_of
from pacebond.codes.made import made
from pacebond.codes.runs import inputs, run
from pacebond.cuts.cuts import cut_of, cut_paper, shows_cut
from pacebond.cuts.seams import piece_bound, piece_heights, piece_ticks, seams_of
from pacebond.errors import NoPass, TooLong, TooWide
from pacebond.machine.walks import misses_of, ticks_of, walk_of
from pacebond.passes.tuned import passed, shows_tuned, tuned, tuned_paper
from pacebond.sure.hits import sure_rows
from pacebond.sure.sheets import hits_by, sheet_of
from pacebond.text.plain import plainly
from pacebond.wire.gaps import gaps_of
from pacebond.wire.together import joined_heights, joined_of, played
from pacebond.words.desk import Desk
from pacebond.words.texts import code_text, numbers_text, passes_text, program_text, read_code, read_program
from tests.samples import Case, Picks

PROGRAMS = (
    ((), (), ()),
    ((("x", 0, 9),), (("a", 4),), (("loop", 3, "x", (("set", "x", ("-", "x", 1)),)), ("put", "a", 0, "x"))),
    ((("x", 0, 3), ("y", 1, 4)), (("a", 3), ("b", 2)), (
        ("if", ("<", "x", "y"), (("set", "z", ("*", "x", "y")), ("put", "a", "z", "x")), (("set", "z", ("at", "b", "x")),)),
        ("loop", 2, "z", (("put", "b", "x", ("+", "z", "z")), ("set", "z", ("at", "b", "y")))),
        ("set", "y", ("+", "z", ("*", "z", "x"))))),
    ((("n", 1, 5),), (), (
        ("set", "f", 1),
        ("loop", 3, "n", (("set", "f", ("*", "f", "n")), ("set", "n", ("-", "n", 1)), ("if", ("=", "n", 1), (("set", "n", 0),), ()))),
        ("if", ("<", "f", 20), (("set", "f", ("+", "f", 1)),), ()))),
)
PASSES = (("threaded",), ("folded",), ("dropped",), ("turned", 0), ("turned", 8), ("exchanged", 1), ("laid", 2), ("dropped",), ("folded",))
MACHINES = ((3, 2, 1), (1, 4, 2), (9, 1, 1))


def all_pairs():
    return [(program, machine) for program in PROGRAMS for machine in MACHINES]


class Runs(Case):
    def test_what_a_run_tells(self):
        for program, machine in all_pairs():
            code = made(program)
            last = tuned(code, machine, PASSES)[0]
            yard, desk = Yard(machine), Desk()
            yard.run((("write", "a", program), ("tune", "a", PASSES)))
            desk.many(("machine {} {} {}".format(*machine), "write a " + program_text(program), "tune a " + passes_text(PASSES)))
            self.same(yard.code("a"), last)
            self.same(desk.say("code a"), code_text(last))
            for worths in inputs(code):
                told = plainly(program, worths)
                self.same(run(code, worths), told)
                self.same(run(last, worths), told)
                self.same(yard.told("a", worths)[0], told)
                self.same(desk.say("told a " + numbers_text(worths)).split(" in ")[0], numbers_text(told[0]))

    def test_its_ticks(self):
        for program, machine in all_pairs():
            code = made(program)
            yard, desk = Yard(machine), Desk()
            yard.write("a", program)
            desk.many(("machine {} {} {}".format(*machine), "write a " + program_text(program)))
            spread, bound = {}, bound_of(code, machine)
            for worths in inputs(code):
                walk = walk_of(code, machine, worths)
                ticks = ticks_of(code, machine, walk)
                self.assertLessEqual(ticks, bound)
                gaps = gaps_of(code, machine, worths)
                self.same(sum(gaps) + machine[0] * misses_of(code, machine, walk), ticks)
                self.same(played(machine, ((code, worths, 100),))[1], (100 + ticks,))
                self.same(piece_ticks(code, machine, 0, len(code[4]), walk), ticks)
                self.same(yard.told("a", worths)[1], ticks)
                self.same(desk.say("told a " + numbers_text(worths)).split(" in ")[1], str(ticks))
                spread.setdefault(ticks, []).append(worths)
            self.same(spread_of(code, machine), tuple([(ticks, len(spread[ticks]), spread[ticks][0]) for ticks in sorted(spread)]))
            worst = (max(spread), spread[max(spread)][0])
            self.same((worst_of(code, machine), yard.worst("a")), (worst, worst))
            self.same(desk.say("worst a"), f"{worst[0]} by {numbers_text(worst[1])}")
            self.same((slack_of(code, machine), yard.slack("a"), desk.say("slack a")), (bound - worst[0], bound - worst[0], str(bound - worst[0])))
            self.assertIs(shows_sharp(code, machine, sharp(code, machine)), True)

    def test_whoever_is_beside(self):
        codes = [made(program) for program in PROGRAMS]
        for seed in range(60):
            picks = Picks(seed)
            machine = picks.one(MACHINES)
            works = []
            for _ in range(1 + picks.below(4)):
                code = picks.one(codes)
                works.append((code, picks.one(inputs(code)), picks.below(30)))
            for (code, _, start), end in zip(works, played(machine, tuple(works))[1]):
                self.assertLessEqual(end, start + joined_of(code, machine, len(works) - 1))


class Bounds(Case):
    def test_the_bound(self):
        for program, machine in all_pairs():
            code = made(program)
            bound, heights, many = bound_of(code, machine), heights_of(code, machine), len(code[4])
            yard, desk = Yard(machine), Desk()
            yard.write("a", program)
            desk.many(("machine {} {} {}".format(*machine), "write a " + program_text(program)))
            ticks, walk, told = longest(code, machine)
            self.same((ticks, ticks_of(code, machine, walk), told), (bound, bound, heights))
            self.assertIs(shows_longest(code, machine, (ticks, walk, told)), True)
            self.same((piece_bound(code, machine, 0, many), piece_heights(code, machine, 0, many)), (bound, heights))
            self.same((joined_of(code, machine, 0), joined_heights(code, machine, 0)), (bound, heights))
            bench = Bench(code, machine)
            self.same((bench.bound(), bench.heights(), str(bench)), (bound, heights, f"bound {bound}"))
            self.same((yard.bound("a"), yard.joined("a")), (bound, bound))
            self.same((desk.say("bound a"), desk.say("joined a")), (str(bound), str(bound)))
            self.same(cut_of(code, machine, bound), ("cut", (0, many)))
            self.same(desk.say(f"cut a {bound}"), f"cut 0,{many}")
            self.same(tuned(code, machine, ()), (code, ()))

    def test_sure_rows(self):
        for program, machine in all_pairs():
            code = made(program)
            yard, desk = Yard(machine), Desk()
            yard.write("a", program)
            desk.many(("machine {} {} {}".format(*machine), "write a " + program_text(program)))
            sure = sure_rows(code, machine)
            self.same((yard.sure("a"), desk.say("sure a")), (sure, numbers_text(sure)))
            self.assertLessEqual(set(hits_by(code, machine, sheet_of(code, machine))), set(sure))

    def test_ahead_of_passes_and_behind_them(self):
        for program, machine in all_pairs():
            code = made(program)
            last, rows = tuned(code, machine, PASSES)
            bench, here = Bench(code, machine), code
            for one, (word, ahead, behind) in zip(PASSES, rows):
                self.same(ahead, bench.bound())
                try:
                    bench = Bench(passed(here, one), machine)
                    self.same(behind, bench.bound())
                    here = bench.code() if word == "kept" else here
                except (NoPass, TooLong, TooWide):
                    self.same((word, behind), ("none", None))
                bench = Bench(here, machine)
            self.same(last, here)
            self.assertLessEqual(bound_of(last, machine), bound_of(code, machine))
            self.assertIs(shows_tuned(code, machine, PASSES, tuned_paper(code, machine, PASSES)), True)

    def test_ahead_of_changes_and_behind_back(self):
        for program, machine in all_pairs():
            code = made(program)
            bench, yard, desk = Bench(code, machine), Yard(machine), Desk()
            yard.write("a", program)
            desk.many(("machine {} {} {}".format(*machine), "write a " + program_text(program)))
            row = len(code[4]) - 2
            if row < 0 or code[4][row][0] == "again":
                continue
            told = bench.change(row, ("rest",))
            self.same((yard.change("a", row, ("rest",)), desk.say(f"change a {row} rest")), (told, str(told)))
            self.same((yard.bound("a"), desk.say("bound a")), (bench.bound(), str(bench.bound())))
            self.same(bench.bound(), bound_of(bench.code(), machine))
            bench.back(), yard.back(), desk.say("back")
            self.same((bench.bound(), yard.bound("a"), desk.say("bound a")), (bound_of(code, machine),) * 2 + (str(bound_of(code, machine)),))
            self.same((bench.code(), yard.code("a"), read_code(desk.say("code a"))), (code,) * 3)
            self.same((yard.program("a"), desk.yard().program("a")), (program, program))

    def test_cuts(self):
        for program, machine in all_pairs():
            code = made(program)
            yard = Yard(machine)
            yard.write("a", program)
            seams = seams_of(code)
            for share in range(1, 60, 3):
                word, cut = cut_of(code, machine, share)
                self.same(yard.cut("a", share), (word, cut))
                self.assertLessEqual(set(cut), set(seams))
                self.assertIs(shows_cut(code, machine, share, cut_paper(code, machine, share)), True)
                if word == "cut":
                    for pair in zip(cut, cut[1:]):
                        self.assertLessEqual(piece_bound(code, machine, *pair), share)


class Kept(Case):
    def test_texts(self):
        for program in PROGRAMS:
            self.same(read_program(program_text(program)), program)
            self.same(read_code(code_text(made(program))), made(program))

    def test_what_is_handed_in_is_not_changed(self):
        program, machine = PROGRAMS[2], MACHINES[0]
        code, works = made(program), ((made(program), (0, 1), 0),) * 2
        begun = repr((program, code, PASSES, works))
        yard = Yard(machine)
        yard.run((("write", "a", program), ("tune", "a", PASSES), ("change", "a", 0, ("rest",)), ("back",)))
        tuned(code, machine, PASSES)
        played(machine, works)
        Bench(code, machine).change(0, code[4][0])
        self.assertEqual(repr((program, code, PASSES, works)), begun)

    def test_rows_are_tuples(self):
        code, machine = made(PROGRAMS[2]), MACHINES[0]
        yard, desk = Yard(machine), Desk()
        told = [
            tuned(code, machine, PASSES), tuned_paper(code, machine, PASSES), seams_of(code), piece_heights(code, machine, 0, 1),
            cut_of(code, machine, 9), cut_of(code, machine, 40), cut_paper(code, machine, 20), gaps_of(code, machine, (0, 1)),
            played(machine, ((code, (0, 1), 0),) * 3), joined_heights(code, machine, 2), yard.run((("write", "a", PROGRAMS[2]),)),
            yard.tune("a", PASSES), yard.names(), yard.runs(), yard.log(), yard.worst("a"), yard.cut("a", 9), yard.sure("a"),
            yard.told("a", (0, 1)), Bench(code, machine).heights(), desk.many(("machine 1 1 1",)), desk.log(),
        ]
        for thing in told:
            self.only_rows(thing)

    def only_rows(self, thing):
        self.assertIn(type(thing), (tuple, int, str, type(None)))
        if type(thing) is tuple:
            for part in thing:
                self.only_rows(part)


if __name__ == "__main__":
    unittest.main()
