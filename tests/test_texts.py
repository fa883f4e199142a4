import unittest

from pacebond.codes.made import made
from pacebond.errors import NoCode, NoPasses, NoProgram, NoText, TooLong
from pacebond.text.programs import is_program
from pacebond.words.texts import (
    code_text, numbers_text, passes_text, program_text, read_code, read_passes, read_program, read_row, row_text)
from tests.samples import ANYTHING, Case, FORTY, Picks, picked_code, unlikely, within

END = ("end",)
PROGRAM = ((("x", 0, 9),), (("a", 4),), (("loop", 3, "x", (("set", "x", ("-", "x", 1)),)), ("put", "a", 0, "x")))
PROGRAM_TEXT = "x 0 9 | a 4 | loop 3 x ( set x - x 1 ) ; put a 0 x"
CODE = (((0, 9), (5, 255)), 16, 2, (6, 1), (
    ("count", 6), ("set", 15, 255), ("test", 0, 5), ("get", 3, 1, 2), ("again", 1), ("go", 7), ("*", 1, 2, 3), END))
CODE_TEXT = "0 9, 5 255 | 16 2 | 6,1 | count 6 ; set 15 255 ; test 0 5 ; get 3 1 2 ; again 1 ; go 7 ; * 1 2 3 ; end"

READS = (read_program, read_code, read_row, read_passes)


def picked_term(picks, left, names, arrays):
    kind = picks.below(4) if left else picks.below(2)
    if kind == 0:
        return picks.below(256)
    if kind == 1:
        return picks.one(names)
    if kind == 2 and arrays:
        return ("at", picks.one(arrays), picked_term(picks, left - 1, names, arrays))
    return (picks.one("+-*<="), picked_term(picks, left - 1, names, arrays), picked_term(picks, left - 1, names, arrays))


def picked_body(picks, left, loops, names, arrays):
    body = []
    for _ in range(picks.below(4)):
        term = picked_term(picks, 4, names, arrays)
        kind = picks.below(5) if left else picks.below(2)
        if kind == 1 and arrays:
            body.append(("put", picks.one(arrays), term, picked_term(picks, 2, names, arrays)))
        elif kind == 2:
            body.append(("if", term, picked_body(picks, left - 1, loops, names, arrays),
                         picked_body(picks, left - 1, loops, names, arrays)))
        elif kind == 3 and loops:
            body.append(("loop", 1 + picks.below(6), term, picked_body(picks, left - 1, loops - 1, names, arrays)))
        else:
            body.append(("set", picks.one(names), term))
    return tuple(body)


def picked_program(picks):
    # words of the language are names, too
    names = ["x", "set", "if", "loop"][:1 + picks.below(4)]
    arrays = ["put", "b"][:picks.below(3)]
    asks = tuple([(name, 0, picks.below(256)) for name in names[:picks.below(3)]])
    program = (asks, tuple([(name, 1 + picks.below(6)) for name in arrays]), picked_body(picks, 3, 2, names, arrays))
    return program if is_program(program) else picked_program(picks)


def spoiled(text):
    """The text with a sign too many, too few or otherwise in each place."""
    found = []
    for at in range(len(text) + 1):
        for sign in " -,;|()0ax\n":
            found.append(text[:at] + sign + text[at:])
            if at < len(text):
                found.append(text[:at] + sign + text[at + 1:])
        found.append(text[:at] + text[at + 1:])
    return [one for one in found if one != text]


class Texts(Case):
    def both(self, write, read, thing, text):
        """The thing is written as the text, and read from it."""
        self.same(write(thing), text)
        self.same(read(text), thing)

    def reads_none_but_what_is_written(self, write, read, text):
        """Whatever text beside this one is read, it is just what is written of it."""
        found = 0
        for one in spoiled(text):
            try:
                told = read(one)
            except NoText:
                continue
            found += 1
            self.same(write(told), one)
        return found


class Numbers(Texts):
    def test_rows(self):
        for numbers, text in (((), "-"), ((0,), "0"), ((7, 0, 255), "7,0,255"), ((FORTY,), "9" * 40), ((1, 1, 1), "1,1,1"), ((10,), "10")):
            self.same(numbers_text(numbers), text)

    def test_however_great(self):
        self.same(numbers_text((10 ** 50, 1)), "1" + "0" * 50 + ",1")

    def test_refused(self):
        for thing in ANYTHING + [(-1,), (0, -1), (True,), (False, 1), ("1",), ((1,),), ([],), [1], (None,), "1,2", 5]:
            if type(thing) is tuple and all([type(one) is int and one >= 0 for one in thing]):
                self.assertIs(type(numbers_text(thing)), str)
            else:
                self.refuses(NoText, numbers_text, thing)


class Rows(Texts):
    def test_each_kind(self):
        for row, text in (
            (("set", 0, 255), "set 0 255"), (("copy", 15, 0), "copy 15 0"), (("+", 1, 2, 3), "+ 1 2 3"), (("-", 1, 2, 3), "- 1 2 3"),
            (("*", 0, 0, 0), "* 0 0 0"), (("<", 15, 15, 15), "< 15 15 15"), (("=", 9, 10, 11), "= 9 10 11"), (("get", 3, 1, 2), "get 3 1 2"),
            (("put", 1, 2, 3), "put 1 2 3"), (("test", 2, 9), "test 2 9"), (("go", 59), "go 59"), (("count", 6), "count 6"),
            (("again", 58), "again 58"), (("rest",), "rest"), (END, "end"),
        ):
            self.both(row_text, read_row, row, text)
            self.reads_none_but_what_is_written(row_text, read_row, text)

    def test_just_so_far(self):
        for head, low, high in (
            (("set", 1), 0, 255), (("set",), 0, 15), (("copy", 1), 0, 15), (("copy",), 0, 15), (("+", 1, 1), 0, 15), (("*", 1), 0, 15),
            (("<",), 0, 15), (("get", 1, 1), 0, 15), (("get", 1), 0, 1), (("get",), 0, 15), (("put", 1, 1), 0, 15), (("put", 1), 0, 15),
            (("put",), 0, 1), (("test", 1), 1, 59), (("test",), 0, 15), (("go",), 1, 59), (("count",), 1, 6), (("again",), 1, 58),
        ):
            rest = {("set",): (0,), ("copy",): (0,), ("*", 1): (0,), ("<",): (0, 0), ("get", 1): (0,), ("get",): (0, 0), ("put", 1): (0,),
                    ("put",): (0, 0), ("test",): (1,)}.get(head, ())
            for number in (low, low + 1, high):
                row = head + (number,) + rest
                self.both(row_text, read_row, row, " ".join(map(str, row)))
            for number in (low - 1, high + 1, FORTY):
                row = head + (number,) + rest
                self.refuses(NoText, row_text, row)
                self.refuses(NoText, read_row, " ".join(map(str, row)))
            for thing in (True, None, "1", (1,), [1]):
                self.refuses(NoText, row_text, head + (thing,) + rest)

    def test_no_rows(self):
        for thing in ANYTHING + [["rest"], ("rest", 0), ("set", 1), ("set", 1, 1, 1), ("at", 1, 1), "rest", (), ("Rest",), (("rest",),)]:
            if thing != END:
                self.refuses(NoText, row_text, thing)
        for text in ("", "-", " ", "rest ", " rest", "rest 0", "set 1", "set 1 1 1", "set  1 1", "set 1  1", "set 01 1", "set 1 01", "set 1 00",
                     "set 1,1", "set 1 -1", "set 1 +1", "set -1 1", "Set 1 1", "at 1 1", "set 1 1\n", "set\n1 1", "set x 1", "rest ; rest",
                     "set 1 " + "0" * 40, "set 1 1" + "0" * 40, "end end", "go", "go ", "go 1 ", "( rest )", "set 1 1_0", "set 1 1e1"):
            self.refuses(NoText, read_row, text)


class Passes(Texts):
    def test_each_kind(self):
        for passes, text in (
            ((), "-"), ((("threaded",),), "threaded"), ((("dropped",), ("folded",)), "dropped, folded"), ((("exchanged", 0),), "exchanged 0"),
            ((("laid", 7), ("turned", 59), ("threaded",)), "laid 7, turned 59, threaded"), ((("laid", FORTY),), "laid " + "9" * 40),
            ((("folded",),) * 20, ", ".join(["folded"] * 20)),
        ):
            self.both(passes_text, read_passes, passes, text)
            if len(text) < 60:
                self.reads_none_but_what_is_written(passes_text, read_passes, text)

    def test_refused(self):
        for thing in ANYTHING + [("dropped",), [("dropped",)], (("laid",),), (("laid", -1),), (("laid", FORTY + 1),), (("dropped",),) * 21]:
            if thing != ():
                self.refuses(NoPasses, passes_text, thing)
        for text in ("", " ", "- ", "-, -", "dropped,", "dropped,folded", "dropped , folded", "dropped,  folded", "dropped folded", "laid", "laid ",
                     "laid 01", "laid 00", "laid -1", "laid 1 1", "laid  1", "dropped 0", "Dropped", ", dropped", "dropped, ", "dropped, -",
                     "laid " + "1" * 41, "laid 0" + "1" * 39, ", ".join(["folded"] * 21), "dropped\n", "laid x", "rest"):
            self.refuses(NoText, read_passes, text)


class Codes(Texts):
    def test_written(self):
        self.both(code_text, read_code, CODE, CODE_TEXT)
        self.both(code_text, read_code, ((), 1, 0, (), (END,)), "- | 1 0 | - | end")
        self.both(code_text, read_code, (((7, 7),), 1, 1, (2,), (("rest",), END)), "7 7 | 1 1 | 2 | rest ; end")
        self.same(code_text(made(PROGRAM)), "0 9 | 2 1 | 4 | count 3 ; test 0 5 ; set 1 1 ; - 0 0 1 ; again 1 ; set 1 0 ; put 0 1 0 ; end")

    def test_picked(self):
        for seed in range(200):
            code = picked_code(Picks(seed), 30)
            self.same(read_code(code_text(code)), code)

    def test_spoiled(self):
        self.assertGreater(self.reads_none_but_what_is_written(code_text, read_code, CODE_TEXT), 20)
        self.reads_none_but_what_is_written(code_text, read_code, "- | 1 0 | - | end")

    def test_refused(self):
        for thing in ANYTHING + unlikely(CODE) + [CODE_TEXT]:
            self.refuses(NoCode, code_text, thing)
        for text in (
            "", "-", "end", "- | 1 0 | -", "- | 1 0 | - | end | end", "- | 1 0 | - | rest", "- | 1 0 | - | -", "- | 1 0 | - | ", "- | 1 | - | end",
            "- | 1 0 0 | - | end", "- | 1,0 | - | end", "- | 0 0 | - | end", "- | 17 0 | - | end", "- | 1 2 | - | end", "- | 01 0 | - | end",
            " | 1 0 | - | end", "- | 1 0 |  | end", "-|1 0|-|end", "- | 1 0 | - | end ", " - | 1 0 | - | end", "- | 1 0 | - | rest;end",
            "- | 1 0 | - | rest ;  end", "- | 1 0 | - | rest ; ; end", "- | 1 0 | - | end ; end", "- | 1 0 | - | set 1 0 ; end",
            "- | 1 0 | - | get 0 0 0 ; end", "- | 1 0 | 7 | end", "- | 1 0 | 1, 1 | end", "- | 1 0 | 1,1,1 | end", "- | 1 0 | 0 | end",
            "0 9,1 2 | 2 0 | - | end", "0 | 1 0 | - | end", "0 9 9 | 1 0 | - | end", "9 0 | 1 0 | - | end", "0 256 | 1 0 | - | end",
            "0 9,  1 2 | 2 0 | - | end", "0 9 , 1 2 | 2 0 | - | end", "- | 1 0 | - | go 2 ; end", "- | 1 0 | - | again 0 ; end",
            "- | 1 0 | - | " + "rest ; " * 60 + "end", "x 0 9 | 1 0 | - | end", "- | 1 0 | - | end\n", PROGRAM_TEXT,
        ):
            self.refuses(NoText, read_code, text)
        self.same(len(read_code("- | 1 0 | - | " + "rest ; " * 59 + "end")[4]), 60)


class Programs(Texts):
    def body(self, body, text):
        self.both(program_text, read_program, ((("x", 0, 9), ("y", 5, 5)), (("a", 6), ("b", 1)), body), f"x 0 9, y 5 5 | a 6, b 1 | {text}")

    def test_written(self):
        self.both(program_text, read_program, PROGRAM, PROGRAM_TEXT)
        self.both(program_text, read_program, ((), (), ()), "- | - | -")
        self.both(program_text, read_program, ((("x", 0, 255),), (), ()), "x 0 255 | - | -")
        self.both(program_text, read_program, ((), (("set", 6),), (("put", "set", 0, 1),)), "- | set 6 | put set 0 1")

    def test_statements(self):
        self.body((), "-")
        self.body((("set", "x", 0), ("set", "y", 255)), "set x 0 ; set y 255")
        self.body((("put", "a", 0, "x"),), "put a 0 x")
        self.body((("if", "x", (("set", "y", 1), ("set", "x", 0)), ()),), "if x ( set y 1 ; set x 0 ) ( - )")
        self.body((("if", 1, (), (("put", "b", "x", "y"),)),), "if 1 ( - ) ( put b x y )")
        self.body((("loop", 6, ("<", "x", 3), ()), ("set", "x", 1)), "loop 6 < x 3 ( - ) ; set x 1")
        self.body((("loop", 1, "x", (("loop", 2, "y", (("if", 0, (("set", "x", 1),), (("set", "x", 2),)),)),)),),
                  "loop 1 x ( loop 2 y ( if 0 ( set x 1 ) ( set x 2 ) ) )")

    def test_terms(self):
        for term, text in (
            (7, "7"), ("x", "x"), (("+", "x", 1), "+ x 1"), (("at", "a", 3), "at a 3"), (("+", "x", ("at", "a", 3)), "+ x at a 3"),
            (("-", ("*", 1, "x"), ("=", "y", 0)), "- * 1 x = y 0"), (("at", "a", ("at", "b", ("<", "x", "y"))), "at a at b < x y"),
            (("-", 0, ("-", 1, ("-", 2, ("-", 3, 4)))), "- 0 - 1 - 2 - 3 4"), (("-", ("-", ("-", ("-", 0, 1), 2), 3), 4), "- - - - 0 1 2 3 4"),
        ):
            self.body((("set", "x", term),), "set x " + text)
            self.body((("put", "a", term, term),), f"put a {text} {text}")
            self.body((("if", term, (), ()),), f"if {text} ( - ) ( - )")
            self.body((("loop", 2, term, ()),), f"loop 2 {text} ( - )")

    def test_words_as_names(self):
        self.both(program_text, read_program, ((("set", 0, 1), ("if", 0, 1)), (("put", 2),), (("set", "set", "if"), ("put", "put", "set", "loop"),
                                                                                         ("loop", 2, "loop", ()), ("if", "if", (), ()))),
                  "set 0 1, if 0 1 | put 2 | set set if ; put put set loop ; loop 2 loop ( - ) ; if if ( - ) ( - )")

    def test_picked(self):
        for seed in range(300):
            program = picked_program(Picks(seed))
            self.same(read_program(program_text(program)), program)

    def test_spoiled(self):
        self.assertGreater(self.reads_none_but_what_is_written(program_text, read_program, PROGRAM_TEXT), 20)
        for text in ("- | - | -", "x 0 9 | - | if x ( - ) ( set x + x 1 )", "- | a 1, b 2 | put a at b 0 - 1 2"):
            self.reads_none_but_what_is_written(program_text, read_program, text)

    def test_refused(self):
        for thing in ANYTHING + unlikely(PROGRAM) + [PROGRAM_TEXT]:
            self.refuses(NoProgram, program_text, thing)
        for text in (
            "", "-", "- | -", "- | - | - | -", "-|-|-", " | - | -", "- |  | -", "- | - | ", "- | - | - ", " - | - | -", "- | - | - -", "- | - | - ; -",
            "- | - | set", "- | - | set x", "- | - | set x 1 ", "- | - | set x 1 ;", "- | - | set x 1 ; ", "- | - | ; set x 1", "- | - | set x 1 ; -",
            "- | - | set x 1; set y 1", "- | - | set x 1 set y 1", "- | - | set x  1", "- | - | set x 01", "- | - | set x 256", "- | - | set x -1",
            "- | - | set x - 1", "- | - | set x - 1 2 3", "- | - | set X 1", "- | - | set at 1", "- | - | set x at", "- | - | set x at a",
            "- | - | set x at a 0", "- | a 1 | set a 0", "- | - | set abcdefg 1", "- | - | set x ( 1 )", "- | - | if x ( - )", "- | - | if x ( - ) ( )",
            "- | - | if x ( ) ( - )", "- | - | if x (-) ( - )", "- | - | if x ( - ) ( - ) ( - )", "- | - | if x ( - ) -", "- | - | if x - -",
            "- | - | if ( - ) ( - )", "- | - | loop 0 x ( - )", "- | - | loop 7 x ( - )", "- | - | loop x x ( - )", "- | - | loop 2 x -",
            "- | - | loop 2 x ( - ", "- | - | loop 2 x ( set x 1", "- | - | loop 2 x ( set x 1 ) )", "- | - | ( set x 1 )", "- | - | put a 0 0",
            "- | a 7 | -", "- | a 0 | -", "- | a | -", "- | a 1 1 | -", "x 0 | - | -", "x 9 0 | - | -", "x 0 9,y 0 9 | - | -", "x 0 9, x 0 9 | - | -",
            "x 0 9, | - | -", "0 9 | - | -", "- | a 1, b 1, c 1 | -", "- | - | Set x 1", "- | - | set x 1\n", "- | - | set\nx 1", "- | - | rest",
            "- | - | set x " + "- 1 " * 5 + "1", "- | - | " + " ; ".join(["set x 1"] * 9), "- | - | set x " + "1" * 41, CODE_TEXT,
            "- | - | " + "loop 2 x ( " * 3 + "-" + " )" * 3, "- | - | " + "if x ( - ) ( " * 4 + "-" + " )" * 4,
        ):
            self.refuses(NoText, read_program, text)

    def test_however_deep_a_text_goes(self):
        for text in ("- | - | " + "if x ( " * 5000 + "-" + " ) ( - )" * 5000, "- | - | set x " + "+ 1 " * 9000 + "1", "- | - | set x " + "at a " * 9000,
                     "- | - | " + "loop 2 x ( " * 9000, "- | - | " + "( " * 9000, "- | - | " + " ; ".join(["set x 1"] * 5000), "9" * 9000):
            for read in READS:
                self.refuses(NoText, read, text)

    def test_too_long_a_code_is_a_program_all_the_same(self):
        long = ((), (), (("set", "x", ("+", ("+", ("+", ("+", 1, 1), 1), 1), 1)),) * 7)
        self.refuses(TooLong, made, long)
        self.same(read_program(program_text(long)), long)


class NoTexts(Case):
    def test_things_that_are_no_text(self):
        for thing in ANYTHING + [PROGRAM, CODE, (PROGRAM_TEXT,), [CODE_TEXT], within("-", 3)]:
            for read in READS:
                if type(thing) is not str:
                    self.refuses(NoText, read, thing)
                elif thing != "end":
                    self.refuses(NoText, read, thing)
        self.same(read_row("end"), END)


if __name__ == "__main__":
    unittest.main()
