import unittest

from pacebond.bench.yard import Yard
from pacebond.errors import (
    NoCode, NoDeed, NoInput, NoLine, NoRow, NoShare, NoText, NoWork, PaceError, TooLong, TooMany, TooWide, WalkError)
from pacebond.passes.tuned import tuned
from pacebond.words.desk import Desk
from pacebond.words.texts import code_text, read_passes, read_program, read_row
from tests.samples import ANYTHING, Case, FORTY

MACHINE = "machine 3 2 1"
DOWN = "x 0 9 | a 4 | loop 3 x ( set x - x 1 ) ; put a 0 x"
TWICE = "f 0 3 | - | set f + f f"
NONE = "- | - | -"
LONG = "- | - | " + " ; ".join(["set x + + + + 1 1 1 1 1"] * 7)
WIDE = "- | a 6 | loop 6 1 ( loop 6 1 ( " + " ; ".join(["set x at a x"] * 8) + " ) )"
MANY_INPUTS = "x 0 20, y 0 20 | - | -"

# A row of each word that is well, where works a and b are there.
WELL = (
    MACHINE, "write c " + NONE, "tune a dropped, turned 0", "change a 5 rest", "drop a", "back", "code a", "bound a", "joined a", "slack a",
    "worst a", "told a 5", "told c -", "cut a 9", "sure a", "names")


class Desks(Case):
    def desk(self, *programs):
        desk = Desk()
        desk.say(MACHINE)
        for name, program in zip("abcd", programs):
            desk.say(f"write {name} {program}")
        return desk

    def unchanged(self, desk, error, row):
        """The row is refused with just this error, and changes nothing of the yard."""
        ahead, many = stood(desk), len(desk)
        refusal = self.refuses(error, desk.say, row)
        self.same(stood(desk), ahead)
        self.same(len(desk), many + 1)
        return refusal


def stood(desk):
    yard = desk.yard()
    if yard is None:
        return None
    return (repr(yard), yard.names(), [(yard.program(name), yard.code(name)) for name in yard.names()])


class Said(Desks):
    def test_machine(self):
        desk = Desk()
        self.assertIs(desk.yard(), None)
        self.same(desk.say("machine 3 2 1"), "ok")
        self.assertTrue(desk.yard() == Yard((3, 2, 1)))
        self.same(desk.say("machine 20 4 4"), "ok")
        self.assertTrue(desk.yard() == Yard((20, 4, 4)))

    def test_a_second_machine(self):
        desk = self.desk(DOWN, TWICE)
        first = desk.yard()
        self.same(desk.say(MACHINE), "ok")
        self.same(desk.say("names"), "-")
        self.same((len(first), len(desk.yard())), (2, 0))
        # what is no machine leaves the yard that stands
        desk.say("write a " + NONE)
        for row in ("machine 0 1 1", "machine 3 2", "machine 21 1 1"):
            self.unchanged(desk, NoLine, row)
        self.same(desk.say("names"), "a")
        self.unchanged(desk, NoWork, "drop b")

    def test_write(self):
        desk = self.desk()
        self.same(desk.say("write a " + DOWN), "8")
        self.same(desk.say("write b " + NONE), "1")
        self.same(desk.yard().program("a"), read_program(DOWN))
        self.same(desk.say("write a " + TWICE), "2")
        self.same(desk.say("names"), "a,b")

    def test_tune(self):
        desk = self.desk(DOWN)
        passes = "dropped, laid 1, turned 0, exchanged 0"
        wanted = [word for word, _, _ in tuned(desk.yard().code("a"), (3, 2, 1), read_passes(passes))[1]]
        self.same(desk.say("tune a " + passes), ",".join(wanted))
        self.assertGreater(len(set(wanted)), 1)
        self.same(desk.say("tune a -"), "-")
        self.same(desk.say("tune a threaded"), "kept")

    def test_change(self):
        desk, yard = self.desk(DOWN), Yard((3, 2, 1))
        yard.write("a", read_program(DOWN))
        for row in ("5 rest", "0 count 6", "1 test 1 5", "7 end"):
            k, text = row.split(" ", 1)
            self.same(desk.say("change a " + row), str(yard.change("a", int(k), read_row(text))))
            self.assertTrue(desk.yard() == yard)

    def test_drop_and_back(self):
        desk = self.desk(DOWN, TWICE)
        self.same(desk.say("drop a"), "ok")
        self.same(desk.say("names"), "b")
        self.same(desk.say("back"), "ok")
        self.same(desk.say("names"), "a,b")
        self.same(desk.say("back"), "ok")
        self.same(desk.say("names"), "a")

    def test_code(self):
        desk = self.desk(DOWN)
        self.same(desk.say("code a"), "0 9 | 2 1 | 4 | count 3 ; test 0 5 ; set 1 1 ; - 0 0 1 ; again 1 ; set 1 0 ; put 0 1 0 ; end")
        desk.say("tune a turned 0")
        self.same(desk.say("code a"), code_text(desk.yard().code("a")))

    def test_numbers(self):
        desk = self.desk(DOWN, TWICE)
        yard = desk.yard()
        for name in "ab":
            self.same(desk.say("bound " + name), str(yard.bound(name)))
            self.same(desk.say("joined " + name), str(yard.joined(name)))
            self.same(desk.say("slack " + name), str(yard.slack(name)))
        self.same([desk.say(word + " a") for word in ("bound", "joined", "slack")], ["39", "60", "0"])

    def test_worst(self):
        desk = self.desk(DOWN, NONE, "x 3 4, y 7 9 | - | -")
        self.same([desk.say("worst " + name) for name in "abc"], ["39 by 3", "4 by -", "4 by 3,7"])

    def test_told(self):
        desk = self.desk(DOWN, NONE, "x 3 4, y 7 9 | b 3 | put b 1 y ; set z + x y")
        self.same(desk.say("told a 5"), "2 in 39")
        self.same(desk.say("told b -"), "- in 4")
        told, ticks = desk.yard().told("c", (4, 8))
        self.same(told, ((4, 8, 12), ((0, 8, 0),)))
        # the registers alone, not the cells
        self.same(desk.say("told c 4,8"), f"4,8,12 in {ticks}")

    def test_cut(self):
        desk = self.desk(DOWN, NONE)
        self.same(desk.say("cut a 39"), "cut 0,8")
        word, seams = desk.yard().cut("a", 38)
        self.assertEqual(word, "cut")
        self.same(desk.say("cut a 38"), "cut " + ",".join(map(str, seams)))
        self.same(desk.say("cut a 1"), "none 0")
        self.same(desk.say("cut b " + "9" * 40), "cut 0,1")

    def test_sure(self):
        desk = self.desk(DOWN, NONE)
        self.same(desk.say("sure a"), ",".join(map(str, desk.yard().sure("a"))))
        self.same(desk.say("sure a"), "2,3,6,7")
        self.same(desk.say("sure b"), "-")

    def test_names(self):
        desk = self.desk()
        self.same(desk.say("names"), "-")
        for name, wanted in (("b", "b"), ("z", "b,z"), ("a", "a,b,z")):
            desk.say(f"write {name} {NONE}")
            self.same(desk.say("names"), wanted)
        # words of the desk are names, too
        desk.say("write write " + NONE)
        self.same(desk.say("names"), "a,b,write,z")
        self.same(desk.say("bound write"), "4")


class NoLines(Desks):
    def test_things_that_are_no_text(self):
        for desk in (Desk(), self.desk(DOWN)):
            for thing in ANYTHING + [(MACHINE,), [MACHINE]]:
                self.unchanged(desk, NoLine, thing)

    def test_all_but_machine_ahead_of_one(self):
        desk = Desk()
        for row in WELL[1:] + ("back", "write a -", "tune a ", "change a 0 ", "drop zz"):
            self.unchanged(desk, NoLine, row)
        self.assertIs(desk.yard(), None)
        self.same(len(desk), len(WELL) + 4)

    def test_words(self):
        desk = self.desk(DOWN, TWICE)
        for row in ("", " ", "Bound a", "bound", "bound ", " bound a", "bounds a", "run a", "ok", "name", "quit", "-", "machines 3 2 1", "BACK",
                    "bound\na", "none", "program a", "log", "runs", "yard"):
            self.unchanged(desk, NoLine, row)

    def test_a_part_too_many_or_too_few_or_a_blank(self):
        for row in WELL:
            desk = self.desk(DOWN, TWICE, NONE)
            word = row.split(" ")[0]
            for other in (row + " ", " " + row, row + " 1", row + "\n", row.replace(" ", "  ", 1), word + " " + row, row[:-1] + " " + row[-1]):
                # what follows a text's blank is of the text
                if word in ("write", "tune", "change") and other not in (" " + row, row.replace(" ", "  ", 1)):
                    continue
                if other != row:
                    self.unchanged(desk, NoLine, other)
            if " " in row:
                self.unchanged(desk, NoLine, word)
                self.unchanged(desk, NoLine, word + " ")
            if word not in ("names", "back", "machine"):
                for name in ("", "A", "at", "abcdefg", "a1", "1", "-", "a,", ",a", "a,b"):
                    rest = row.split(" ", 2)
                    self.unchanged(desk, NoLine, " ".join([word, name] + rest[2:]))

    def test_parts_of_programs_and_rows_and_passes(self):
        desk = self.desk(DOWN)
        for row in ("write", "write ", "write a", "tune", "tune a", "change", "change a", "change a 5", "change a  rest", "change  5 rest",
                    "write  " + DOWN, "tune  dropped", "change a rest", "change a 5rest", "change a rest 5"):
            self.unchanged(desk, NoLine, row)

    def test_numbers(self):
        desk = self.desk(DOWN)
        for number in ("", "-", "-1", "+1", "01", "00", "1,", "x", "1.0", "9" * 41, "1_0", "1\n", "0x1", "1,1"):
            self.unchanged(desk, NoLine, "cut a " + number)
            self.unchanged(desk, NoLine, f"change a {number} rest")
            self.unchanged(desk, NoLine, f"machine {number} 1 1")
            self.unchanged(desk, NoLine, f"machine 1 1 {number}")

    def test_rows_of_numbers(self):
        desk = self.desk(DOWN)
        for row in ("", "x", "5,", ",5", "5, 5", "5 5", "05", "-5", "5,-", "-,-", "--", "9" * 41, "5\n", "5;5"):
            self.unchanged(desk, NoLine, "told a " + row)
        # so written, but no input
        for row in ("-", "10", "5,5", FORTY):
            self.unchanged(desk, NoInput, f"told a {row}")

    def test_machines_that_are_none(self):
        for desk in (Desk(), self.desk(DOWN)):
            for row in ("machine", "machine ", "machine 3", "machine 3 2", "machine 3 2 1 1", "machine 0 2 1", "machine 21 2 1", "machine 3 0 1",
                        "machine 3 5 1", "machine 3 2 0", "machine 3 2 5", "machine 3,2,1", "machine a b c", f"machine {FORTY} 1 1"):
                self.unchanged(desk, NoLine, row)


class NoTexts(Desks):
    def test_what_stands_behind_their_blank(self):
        desk = self.desk(DOWN)
        for text in ("", " ", "-", "- | -", DOWN + " ", " " + DOWN, DOWN + "\n", "x 0 9", "set x 1", "- | - | set x", NONE + " | -", "\n", "~"):
            self.unchanged(desk, NoText, "write a " + text)
            # whatever else is due: no fifth one, no such name
            self.unchanged(desk, NoText, "write zz " + text)
        for text in ("", " ", "- ", "dropped ", " dropped", "dropped,folded", "laid", "laid 01", "rest", "dropped\n", ", ".join(["folded"] * 21)):
            self.unchanged(desk, NoText, "tune a " + text)
            self.unchanged(desk, NoText, "tune zz " + text)
        for text in ("", " ", "-", "rest ", " rest", "set 1", "set 16 0", "set 0 256", "test 0 0", "go 60", "again 59", "rest ; rest", "end\n"):
            self.unchanged(desk, NoText, "change a 5 " + text)
            self.unchanged(desk, NoText, "change zz 99 " + text)

    def test_a_blank_more_is_of_the_text(self):
        desk = self.desk(DOWN)
        for row in ("write a  " + DOWN, "tune a  dropped", "change a 5  rest"):
            self.unchanged(desk, NoText, row)
        # but ahead of it the parts have to be well
        for row in ("write A  ", "tune A ", "change A 5 ", "change a x ", "change a 05 "):
            self.unchanged(desk, NoLine, row)


class AsTheYard(Desks):
    def test_no_work(self):
        desk = self.desk(DOWN)
        for row in ("tune b dropped", "change b 0 rest", "change b 99 rest", "drop b", "code b", "bound b", "joined b", "slack b", "worst b",
                    "told b 5", "told b -", "cut b 0", "cut b 9", "sure b"):
            self.same(self.unchanged(desk, NoWork, row).name, "b")

    def test_each(self):
        desk = self.desk(DOWN, TWICE, NONE, MANY_INPUTS)
        for row, error in (
            ("write e " + NONE, TooMany), ("write e " + LONG, TooMany), ("write d " + LONG, TooLong), ("write d " + WIDE, TooWide),
            ("change a 8 rest", NoRow), (f"change a {FORTY} rest", NoRow), ("change a 7 rest", NoCode), ("change a 5 set 15 1", NoCode),
            ("change a 5 get 0 1 0", NoCode), ("told a 10", NoInput), ("told a -", NoInput), ("told d 20", NoInput), ("cut a 0", NoShare),
            ("worst d", TooWide), ("slack d", TooWide),
        ):
            self.unchanged(desk, error, row)
        self.same(self.refuses(NoRow, desk.say, "change a 8 rest").number, 8)

    def test_no_deed(self):
        desk = self.desk(DOWN)
        desk.say("back")
        self.unchanged(desk, NoDeed, "back")

    def test_the_yard_s_own_log(self):
        desk = self.desk(DOWN)
        for row in ("drop z", "tune a dropped", "bound a", "tune a x", "change a 01 rest", "write A -"):
            try:
                desk.say(row)
            except (PaceError, WalkError):
                continue
        # what is refused as a line or as a text never comes to the yard
        self.same(desk.yard().log(), (("write", "in"), ("write", "done"), ("drop", "in"), ("drop", "refused"), ("tune", "in"), ("tune", "done")))


class Many(Desks):
    def test_answers(self):
        desk = Desk()
        self.same(desk.many((MACHINE, "write a " + DOWN, "bound a", "names")), ("ok", "8", "39", "a"))
        self.same(desk.many(()), ())
        self.same(len(desk), 4)

    def test_up_to_the_first_refused(self):
        for bad, error in (("drop b", NoWork), ("bound", NoLine), (None, NoLine), ("write b x", NoText), ("change a 9 rest", NoRow)):
            desk = Desk()
            self.refuses(error, desk.many, (MACHINE, "write a " + DOWN, bad, "drop a"))
            self.same(desk.yard().names(), ("a",))
            self.same(len(desk), 3)
            said = bad if type(bad) is str else ""
            self.same(desk.log()[4:], (("in", said), ("out", said)))

    def test_no_tuple(self):
        desk = self.desk(DOWN)
        log = desk.log()
        for thing in ANYTHING + [[MACHINE], MACHINE, "names", {"names": 1}]:
            if type(thing) is not tuple:
                self.refuses(NoLine, desk.many, thing)
        self.same((desk.log(), len(desk)), (log, 2))


class Logged(Desks):
    def test_both_ends_of_each_row(self):
        desk = Desk()
        self.same((desk.log(), len(desk)), ((), 0))
        rows = (MACHINE, "write a " + DOWN, "bound a", "bound z", "nothing", "", "tune a x")
        for row in rows:
            try:
                desk.say(row)
            except (PaceError, WalkError):
                continue
        self.same(desk.log(), tuple([(end, row) for row in rows for end in ("in", "out")]))
        self.same(len(desk), 7)

    def test_what_is_no_text(self):
        desk = Desk()
        for thing in ANYTHING:
            if type(thing) is not str:
                self.refuses(NoLine, desk.say, thing)
                self.same(desk.log()[-2:], (("in", ""), ("out", "")))
        self.same(2 * len(desk), len(desk.log()))

    def test_a_new_machine_takes_nothing_back(self):
        desk = self.desk(DOWN)
        desk.say(MACHINE)
        self.same(len(desk), 3)
        self.same(desk.log()[:2], (("in", MACHINE), ("out", MACHINE)))

    def test_what_is_told_is_the_asker_s_own(self):
        desk = Desk()
        log = desk.log()
        desk.say(MACHINE)
        self.same(log, ())
        self.assertIs(type(desk.log()), tuple)

    def test_the_yard_itself(self):
        desk = self.desk(DOWN)
        yard = desk.yard()
        self.assertIs(desk.yard(), yard)
        desk.say("write b " + NONE)
        self.same(yard.names(), ("a", "b"))

    def test_two_desks(self):
        desk, other = self.desk(DOWN), self.desk()
        self.same((desk.say("names"), other.say("names")), ("a", "-"))


if __name__ == "__main__":
    unittest.main()
