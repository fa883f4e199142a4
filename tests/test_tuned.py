import unittest

from pacebond.bounds.heights import heights_of, shows_heights
from pacebond.bounds.longest import bound_of, longest
from pacebond.errors import NoCode, NoMachine, NoMost, NoPass, NoPasses, NoWalk, TooLong, TooWide
from pacebond.codes.runs import run
from pacebond.machine.moods import BEGIN, EMPTY
from pacebond.machine.walks import is_walk, spots_of, ticks_of
from pacebond.passes.dropped import dropped
from pacebond.passes.exchanged import exchanged
from pacebond.passes.folded import folded
from pacebond.passes.laid import laid
from pacebond.passes.threaded import threaded
from pacebond.passes.tuned import is_passes, passed, shows_tuned, tuned, tuned_paper
from pacebond.passes.turned import turned
from tests.samples import ANYTHING, Case, FORTY, Picks, all_inputs, picked_code, put_at, unlikely, warped

END = ("end",)
REST = ("rest",)
MACHINE = (3, 1, 1)
THREADED, DROPPED, FOLDED = ("threaded",), ("dropped",), ("folded",)


def of(*rows, asks=((0, 1),), many=3, shown=3, arrays=()):
    return (asks, many, shown, arrays, rows + (END,))


# What row 1 gives is given again by row 3 without being read, so much of it drops.
CODE = of(
    ("test", 0, 2),      # 0
    ("set", 1, 3),       # 1
    ("set", 2, 5),       # 2
    ("*", 1, 0, 0),      # 3
    ("+", 1, 1, 1),      # 4
    REST)                # 5


def picked_pass(picks, code):
    row = picks.below(len(code[4]) + 1)
    return picks.one([THREADED, DROPPED, FOLDED, ("exchanged", row), ("laid", row), ("turned", row)])


class Passes(Case):
    def test_each_kind(self):
        for one in (THREADED, DROPPED, FOLDED):
            self.assertIs(is_passes((one,)), True)
            self.assertIs(is_passes((one + (0,),)), False)
        for word in ("exchanged", "laid", "turned"):
            for k in (0, 1, 60, FORTY):
                self.assertIs(is_passes(((word, k),)), True)
            for k in (-1, FORTY + 1, True, False, None, "0", (0,), [0]):
                self.assertIs(is_passes(((word, k),)), False)
            self.assertIs(is_passes(((word,),)), False)
            self.assertIs(is_passes(((word, 0, 0),)), False)

    def test_how_many(self):
        self.assertIs(is_passes(()), True)
        self.assertIs(is_passes((DROPPED,) * 20), True)
        self.assertIs(is_passes((DROPPED,) * 21), False)
        self.assertIs(is_passes((DROPPED,) * 19 + (("laid", FORTY),)), True)

    def test_anything(self):
        for thing in ANYTHING:
            self.assertIs(is_passes(thing), thing == () and type(thing) is tuple)
            self.assertIs(is_passes((thing,)), False)
            self.assertIs(is_passes((DROPPED, thing)), False)
        for thing in unlikely((DROPPED, ("laid", 1), ("turned", 0))) + [DROPPED, ("laid", 1), "dropped", ("dropped",)]:
            self.assertIs(is_passes(thing), False)
        for word in ("Dropped", "dropped ", "drop", "", "rest", "kept", None, 0):
            self.assertIs(is_passes(((word,),)), False)
            self.assertIs(is_passes(((word, 0),)), False)

    def test_passed(self):
        code = of(("go", 1), ("set", 1, 3), ("copy", 2, 0), ("count", 2), ("test", 1, 6), REST, ("again", 4), arrays=(2,))
        for one, wanted in ((THREADED, threaded(code)), (DROPPED, dropped(code)), (FOLDED, folded(code)),
                            (("exchanged", 1), exchanged(code, 1)), (("laid", 2), laid(code, 2)), (("turned", 3), turned(code, 3))):
            self.same(passed(code, one), wanted)

    def test_passed_refused(self):
        for thing in ANYTHING:
            self.refuses(NoCode, passed, thing, None)
            self.refuses(NoPasses, passed, CODE, thing)
        for thing in ((DROPPED,), ("laid",), ("laid", -1), ("laid", FORTY + 1), ("dropped", 0), ["dropped"], ("laid", True)):
            self.refuses(NoPasses, passed, CODE, thing)
        for word in ("exchanged", "laid", "turned"):
            self.refuses(NoPass, passed, CODE, (word, 7))
            self.refuses(NoPass, passed, CODE, (word, FORTY))
        self.refuses(TooLong, passed, of(*[REST] * 59), ("laid", 0))
        self.refuses(TooLong, passed, of(("count", 2), *[REST] * 57, ("again", 1)), ("turned", 0))


class Tuned(Case):
    def test_no_passes(self):
        self.same(tuned(CODE, MACHINE, ()), (CODE, ()))
        self.same(tuned_paper(CODE, MACHINE, ()), ())
        self.assertIs(shows_tuned(CODE, MACHINE, (), ()), True)

    def test_kept(self):
        bound = bound_of(CODE, MACHINE)
        code, rows = tuned(CODE, MACHINE, (DROPPED,))
        self.same(code, dropped(CODE))
        self.same(rows, (("kept", bound, bound_of(dropped(CODE), MACHINE)),))
        self.assertLess(rows[0][2], rows[0][1])

    def test_kept_where_the_bound_is_the_same(self):
        # nothing to do, and another code whose bound is the same
        bound = bound_of(CODE, MACHINE)
        self.same(tuned(CODE, MACHINE, (THREADED,)), (CODE, (("kept", bound, bound),)))
        code = of(("set", 1, 1), ("copy", 2, 1))
        bound = bound_of(code, MACHINE)
        self.same(tuned(code, MACHINE, (FOLDED,)), (of(("set", 1, 1), ("set", 2, 1)), (("kept", bound, bound),)))

    def test_left(self):
        # behind the rest all takes a tick more; what is exchanged is waited for
        waited = of(("*", 1, 0, 0), ("set", 2, 5), ("+", 1, 1, 1))
        for code, machine, one in ((CODE, MACHINE, ("laid", 3)), (waited, (3, 4, 1), ("exchanged", 0))):
            bound, other = bound_of(code, machine), bound_of(passed(code, one), machine)
            self.assertGreater(other, bound)
            self.same(tuned(code, machine, (one,)), (code, (("left", bound, other),)))

    def test_turned_is_left_where_it_misses_more(self):
        code, machine = of(("count", 2), REST, REST, REST, REST, ("again", 1)), (20, 4, 1)
        bound, other = bound_of(code, machine), bound_of(turned(code, 0), machine)
        self.assertGreater(other, bound)
        self.same(tuned(code, machine, (("turned", 0),)), (code, (("left", bound, other),)))

    def test_none(self):
        bound = bound_of(CODE, MACHINE)
        for one in (("exchanged", 0), ("laid", 7), ("turned", 0), ("turned", FORTY)):
            self.refuses(NoPass, passed, CODE, one)
            self.same(tuned(CODE, MACHINE, (one,)), (CODE, (("none", bound, None),)))

    def test_none_by_too_long(self):
        code = of(*[REST] * 59)
        bound = bound_of(code, MACHINE)
        self.same(tuned(code, MACHINE, (("laid", 3),)), (code, (("none", bound, None),)))

    def test_none_by_too_many_spots(self):
        code = of(("count", 4), ("get", 1, 0, 0), ("get", 1, 1, 0), ("again", 1), arrays=(6, 6))
        many, more = len(spots_of(code, MACHINE, most=5000)), len(spots_of(laid(code, 0), MACHINE, most=5000))
        self.assertGreater(more, many)
        bound = bound_of(code, MACHINE, most=5000)
        self.same(tuned(code, MACHINE, (("laid", 0),), most=many), (code, (("none", bound, None),)))
        self.same(tuned(code, MACHINE, (("laid", 0),), most=more - 1), (code, (("none", bound, None),)))
        # one spot more may be
        word, _, behind = tuned(code, MACHINE, (("laid", 0),), most=more)[1][0]
        self.same((word, behind), ("left", bound_of(laid(code, 0), MACHINE, most=5000)))

    def test_one_behind_another(self):
        # what is left or none changes nothing for those behind it
        passes = (("laid", 3), DROPPED, ("turned", 0), ("exchanged", 0), FOLDED)
        code, told = CODE, []
        for one in passes:
            try:
                other = passed(code, one)
            except NoPass:
                told.append(("none", bound_of(code, MACHINE), None))
                continue
            ahead, behind = bound_of(code, MACHINE), bound_of(other, MACHINE)
            told.append(("kept" if behind <= ahead else "left", ahead, behind))
            code = other if behind <= ahead else code
        self.same(tuned(CODE, MACHINE, passes), (code, tuple(told)))
        self.assertEqual([word for word, _, _ in told], ["left", "kept", "none", "kept", "kept"])

    def test_the_same_pass_again(self):
        code = of(*[("set", 1, 1)] * 5)
        self.same([word for word, _, _ in tuned(code, MACHINE, (("laid", 0),) * 20)[1]], ["left"] * 20)
        code = of(("count", 3), REST, ("again", 1))
        told, rows = tuned(code, (1, 4, 1), (("turned", 0), ("turned", 1), ("turned", 2), ("turned", 3)))
        self.same(told, of(REST, REST, REST))
        self.same([word for word, _, _ in rows], ["kept", "kept", "kept", "none"])

    def test_of_picked_codes(self):
        found = {"kept": 0, "left": 0, "none": 0}
        for seed in range(60):
            picks = Picks(seed)
            code = picked_code(picks, 10)
            machine = (1 + picks.below(4), 1 + picks.below(4), 1 + picks.below(2))
            passes = tuple([picked_pass(picks, code) for _ in range(5)])
            try:
                last, rows = tuned(code, machine, passes, most=300)
            except TooWide:
                self.refuses(TooWide, spots_of, code, machine, most=300)
                continue
            here = code
            for one, (word, ahead, behind) in zip(passes, rows):
                found[word] += 1
                self.same(ahead, bound_of(here, machine, most=300))
                try:
                    other = passed(here, one)
                    self.same(behind, bound_of(other, machine, most=300))
                    self.assertEqual(word, "kept" if behind <= ahead else "left")
                    here = other if word == "kept" else here
                except (NoPass, TooLong, TooWide):
                    self.same((word, behind), ("none", None))
            self.same(last, here)
            self.assertLessEqual(bound_of(last, machine), bound_of(code, machine))
            for worths in all_inputs(code):
                self.same(run(last, worths), run(code, worths))
            paper = tuned_paper(code, machine, passes, most=300)
            self.same([entry[0] for entry in paper], [word for word, _, _ in rows])
            self.assertIs(shows_tuned(code, machine, passes, paper, most=300), True)
        self.assertGreater(min(found.values()), 20)


def number_of(heights):
    return [number for spot, number in heights if spot == BEGIN][0]


def shown(code, machine, passes, thing, most=1000):
    """Whether it is a paper, by what single parts tell of it."""
    if type(thing) is not tuple or len(thing) != len(passes):
        return False
    for one, entry in zip(passes, thing):
        try:
            other = passed(code, one)
            spots_of(other, machine, most=most)
        except (NoPass, TooLong, TooWide):
            if repr(entry) != "('none',)":
                return False
            continue
        if type(entry) is not tuple or len(entry) != 3 or type(entry[0]) is not str or entry[0] not in ("kept", "left"):
            return False
        word, heights, walk = entry if entry[0] == "left" else (entry[0], entry[2], entry[1])
        slow, fast = (other, code) if word == "left" else (code, other)
        if not is_walk(slow, machine, walk) or not shows_heights(fast, machine, heights):
            return False
        ticks, number = ticks_of(slow, machine, walk), number_of(heights)
        if not (ticks > number if word == "left" else ticks >= number):
            return False
        code = other if word == "kept" else code
    return True


class Shown(Case):
    PASSES = (("laid", 3), DROPPED, ("turned", 0), FOLDED)

    def both(self, thing, code=CODE, passes=PASSES, machine=MACHINE, most=1000):
        told = self.truth(shows_tuned(code, machine, passes, thing, most=most))
        self.assertEqual(told, shown(code, machine, passes, thing, most), thing)
        return told

    def test_papers(self):
        paper = tuned_paper(CODE, MACHINE, self.PASSES)
        self.assertTrue(self.both(paper))
        left, kept, none, other = paper
        self.same(left, ("left", heights_of(CODE, MACHINE), longest(laid(CODE, 3), MACHINE)[1]))
        self.same(none, ("none",))
        self.same((kept[0], other[0]), ("kept", "kept"))
        self.same(number_of(kept[2]), bound_of(dropped(CODE), MACHINE))
        self.same(ticks_of(CODE, MACHINE, kept[1]), bound_of(CODE, MACHINE))

    def test_words_otherwise(self):
        paper = tuned_paper(CODE, MACHINE, self.PASSES)
        for at, entry in enumerate(paper):
            for word in ("kept", "left", "none", "", "Kept", None, 0, True):
                if word != entry[0]:
                    self.assertFalse(self.both(put_at(paper, (at, 0), word)))
            self.assertFalse(self.both(put_at(paper, (at,), ("none",))) and entry != ("none",))
            self.assertFalse(self.both(put_at(paper, (at,), entry + (0,))))
            self.assertFalse(self.both(put_at(paper, (at,), entry[:-1])))
            self.assertFalse(self.both(put_at(paper, (at,), list(entry))))

    def test_parts_changed_about(self):
        bound, heights = bound_of(CODE, MACHINE), heights_of(CODE, MACHINE)
        walk = longest(CODE, MACHINE)[1]
        for one, other in ((DROPPED, dropped(CODE)), (("laid", 3), laid(CODE, 3)), (THREADED, CODE)):
            less = bound_of(other, MACHINE) <= bound
            for entry, wanted in (
                (("kept", walk, heights_of(other, MACHINE)), less),
                (("left", heights, longest(other, MACHINE)[1]), not less),
                (("kept", heights_of(other, MACHINE), walk), False),
                (("left", longest(other, MACHINE)[1], heights), False),
                (("kept", longest(other, MACHINE)[1], heights), other == CODE),
            ):
                self.assertEqual(self.both((entry,), passes=(one,)), wanted, (one, entry[0]))

    def test_any_heights_and_walks(self):
        # raised as far as the walk's ticks bear it, and one more
        other = dropped(CODE)
        walk, spare = longest(CODE, MACHINE)[1], bound_of(CODE, MACHINE) - bound_of(other, MACHINE)
        self.assertGreater(spare, 0)
        for more, wanted in ((0, True), (spare, True), (spare + 1, False), (-1, False)):
            raised = tuple([(spot, number + more) for spot, number in heights_of(other, MACHINE)])
            self.assertEqual(self.both((("kept", walk, raised),), passes=(DROPPED,)), wanted)
        # a spot more that walks don't come to
        far = (len(other[4]) - 1, (), EMPTY)
        more = tuple(sorted(heights_of(other, MACHINE) + ((far, 9),)))
        self.assertTrue(self.both((("kept", walk, more),), passes=(DROPPED,)))
        # of left ones likewise
        slow = longest(laid(CODE, 3), MACHINE)[1]
        spare = bound_of(laid(CODE, 3), MACHINE) - bound_of(CODE, MACHINE)
        for more, wanted in ((0, True), (spare - 1, True), (spare, False)):
            raised = tuple([(spot, number + more) for spot, number in heights_of(CODE, MACHINE)])
            self.assertEqual(self.both((("left", raised, slow),), passes=(("laid", 3),)), wanted)

    def test_a_shorter_walk(self):
        # of the two walks one takes fewer ticks; where the bound is the same only the longer one shows it
        code = of(("test", 0, 4), ("set", 1, 1), ("set", 1, 2), ("set", 1, 3), ("set", 1, 4))
        for walk, wanted in (((0,) * 6, True), ((1, 0, 0), False)):
            self.assertIs(is_walk(code, MACHINE, walk), True)
            self.assertIs(ticks_of(code, MACHINE, walk) == bound_of(code, MACHINE), wanted)
            self.assertIs(self.both((("kept", walk, heights_of(code, MACHINE)),), code, (THREADED,)), wanted)
        # of the code ahead or the new one, neither of which may stand for the other
        other = laid(code, 1)
        for walk, wanted in (((0,) * 7, True), ((1, 0, 0), False), ((0,) * 6, False)):
            self.assertIs(self.both((("left", heights_of(code, MACHINE), walk),), code, (("laid", 1),)), wanted)
        self.assertGreater(bound_of(other, MACHINE), bound_of(code, MACHINE))

    def test_none_only_where_it_is_none(self):
        for one in (THREADED, DROPPED, ("laid", 3)):
            self.assertFalse(self.both((("none",),), passes=(one,)))
        for one in (("laid", 9), ("turned", 1), ("exchanged", 0)):
            self.assertTrue(self.both((("none",),), passes=(one,)))
            self.assertFalse(self.both((("kept", longest(CODE, MACHINE)[1], heights_of(CODE, MACHINE)),), passes=(one,)))
            for entry in ((), "none", ["none"], ("none", None), None, ("None",)):
                self.assertFalse(self.both((entry,), passes=(one,)))

    def test_too_many_spots(self):
        code = of(("count", 4), ("get", 1, 0, 0), ("get", 1, 1, 0), ("again", 1), arrays=(6, 6))
        many, other = len(spots_of(code, MACHINE)), laid(code, 0)
        more = len(spots_of(other, MACHINE))
        left = ("left", heights_of(code, MACHINE), longest(other, MACHINE)[1])
        for most, wanted in ((many, False), (more - 1, False), (more, True)):
            self.assertEqual(self.both((left,), code, (("laid", 0),), most=most), wanted)
            self.assertEqual(self.both((("none",),), code, (("laid", 0),), most=most), not wanted)

    def test_what_is_kept_is_gone_on_from(self):
        # of the dropped code the second pass does nothing; of the code itself it would
        code = of(REST, ("set", 1, 1))
        paper = tuned_paper(code, MACHINE, (DROPPED, ("laid", 2)))
        self.same([entry[0] for entry in paper], ["kept", "none"])
        self.assertTrue(self.both(paper, code, (DROPPED, ("laid", 2))))
        self.assertFalse(self.both(paper[:1] + (("left", heights_of(code, MACHINE), longest(laid(code, 2), MACHINE)[1]),),
                                   code, (DROPPED, ("laid", 2))))

    def test_one_part_otherwise_and_of_anything(self):
        code, passes = of(REST), (DROPPED, ("laid", 0), ("turned", 0))
        paper = tuned_paper(code, MACHINE, passes)
        for thing in ANYTHING + unlikely(paper) + [paper + (("none",),), paper[:-1], (paper,), list(paper), paper[::-1]]:
            self.assertFalse(self.both(thing, code, passes))
        for thing in warped(paper):
            self.both(thing, code, passes)


class Refused(Case):
    CALLS = ((tuned, ()), (tuned_paper, ()), (shows_tuned, (None,)))
    WIDE = of(("count", 6), ("count", 6), ("get", 0, 0, 0), *[REST] * 40, ("again", 2), ("again", 1), arrays=(1,))

    def test_in_its_order(self):
        for call, more in self.CALLS:
            for thing in ANYTHING:
                self.refuses(NoCode, call, thing, None, None, *more, most=0)
                if thing != (1, 2, 3):
                    self.refuses(NoMachine, call, self.WIDE, thing, None, *more, most=0)
                if thing != ():
                    self.refuses(NoPasses, call, self.WIDE, MACHINE, thing, *more, most=0)
                if not (type(thing) is int and 1 <= thing <= 5000):
                    self.refuses(NoMost, call, self.WIDE, MACHINE, (), *more, most=thing)
            self.refuses(TooWide, call, self.WIDE, MACHINE, (), *more)
            self.refuses(NoPasses, call, self.WIDE, MACHINE, (DROPPED,) * 21, *more)
            self.refuses(NoPasses, call, self.WIDE, MACHINE, (("laid", FORTY + 1),), *more)

    def test_just_as_many_spots_and_one_fewer(self):
        many = len(spots_of(CODE, MACHINE))
        self.same(tuned(CODE, MACHINE, (DROPPED,), most=many), tuned(CODE, MACHINE, (DROPPED,)))
        self.same(tuned_paper(CODE, MACHINE, (DROPPED,), most=many), tuned_paper(CODE, MACHINE, (DROPPED,)))
        paper = tuned_paper(CODE, MACHINE, (DROPPED,))
        self.assertIs(shows_tuned(CODE, MACHINE, (DROPPED,), paper, most=many), True)
        for passes in ((), (DROPPED,)):
            self.refuses(TooWide, tuned, CODE, MACHINE, passes, most=many - 1)
            self.refuses(TooWide, tuned_paper, CODE, MACHINE, passes, most=many - 1)
            self.refuses(TooWide, shows_tuned, CODE, MACHINE, passes, paper, most=many - 1)


if __name__ == "__main__":
    unittest.main()
