"""A yard: works by their names, deeds done to them and undone."""

from pacebond.bench.bench import Bench
from pacebond.bounds.worst import slack_of, worst_of
from pacebond.codes.made import made
from pacebond.cuts.cuts import cut_of
from pacebond.errors import NoDeed, NoName, NoWork, PaceError, TooMany, WalkError
from pacebond.machine.near import need_machine
from pacebond.machine.walks import MOST, need_most, timed_run
from pacebond.passes.tuned import tuned
from pacebond.sure.hits import sure_rows
from pacebond.text.programs import need_program
from pacebond.text.terms import is_name
from pacebond.wire.together import joined_of

_WORKS = 4

# How many parts each deed has, its word among them.
_PARTS = {"write": 3, "tune": 3, "change": 4, "drop": 2, "back": 1}
_NONE = "none"


class Yard:
    """A machine, and up to four works by their names."""

    def __init__(self, machine, *, most=MOST):
        need_machine(machine)
        need_most(most)
        self._machine = machine
        self._most = most
        # (program, bench) by name, the program None from a change on.
        self._works = {}
        # For each deed that stands: the name, the work that was there ahead of it, whether that work's bench changed.
        self._undo = []
        self._runs = []
        self._log = []

    def write(self, name, program):
        """Makes the program's code a work by this name; told is how many rows it has."""
        return self.begin_deed("write", (name, program))

    def tune(self, name, passes):
        """Tunes a work; told are the words of the passes."""
        return self.begin_deed("tune", (name, passes))

    def change(self, name, row, new):
        """Puts a row in the place of one of a work's rows; told is how many spots are judged anew."""
        return self.begin_deed("change", (name, row, new))

    def drop(self, name):
        """Takes a work out."""
        return self.begin_deed("drop", (name,))

    def back(self):
        """Undoes the last deed that stands."""
        return self.begin_deed("back", ())

    def run(self, deeds):
        """Does deeds one by one, up to the first that is refused; told is what each tells."""
        if type(deeds) is not tuple:
            raise NoDeed("this is no row of deeds")
        self._runs.append(0)
        told = []
        for deed in deeds:
            word = deed[0] if is_deed(deed) else _NONE
            told.append(self.begin_deed(word, () if word == _NONE else deed[1:]))
            self._runs[-1] += 1
        return tuple(told)

    def runs(self):
        """How many deeds each run did."""
        return tuple(self._runs)

    def log(self):
        """Both ends of each deed begun, (word, "in") and (word, "done" or "refused")."""
        return tuple(self._log)

    def names(self):
        """The works' names, rising."""
        return tuple(sorted(self._works))

    def program(self, name):
        """A work's program, None from a change on."""
        return self.work(name)[0]

    def code(self, name):
        """A work's code."""
        return self.work(name)[1].code()

    def bound(self, name):
        """A work's bound."""
        return self.work(name)[1].bound()

    def worst(self, name):
        """The most ticks that a run of a work takes, and the first input whose run takes them."""
        return worst_of(self.code(name), self._machine)

    def slack(self, name):
        """A work's bound less the most ticks that a run of it takes."""
        return slack_of(self.code(name), self._machine, most=self._most)

    def cut(self, name, share):
        """The cut of a work by a share."""
        return cut_of(self.code(name), self._machine, share, most=self._most)

    def joined(self, name):
        """A work's joined bound with as many others as there are."""
        return joined_of(self.code(name), self._machine, len(self._works) - 1, most=self._most)

    def sure(self, name):
        """A work's rows whose fetch is sure."""
        return sure_rows(self.code(name), self._machine, most=self._most)

    def told(self, name, worths):
        """What a work's run of an input tells, and how many ticks it takes."""
        return timed_run(self.code(name), self._machine, worths)

    def work(self, name):
        """(program, bench) of a name."""
        # What is no text may be no key, either.
        if type(name) is not str or name not in self._works:
            raise NoWork(name)
        return self._works[name]

    def begin_deed(self, word, parts):
        """Does a deed, with both its ends in the log."""
        self._log.append((word, "in"))
        try:
            told = self.do_deed(word, parts)
        except (PaceError, WalkError):
            self._log.append((word, "refused"))
            raise
        self._log.append((word, "done"))
        return told

    def do_deed(self, word, parts):
        """Does a deed by its word and its other parts; told is what it tells."""
        if word == "write":
            return self.do_write(*parts)
        if word == "tune":
            return self.do_tune(*parts)
        if word == "change":
            return self.do_change(*parts)
        if word == "drop":
            return self.do_drop(*parts)
        if word == "back":
            return self.do_back()
        raise NoDeed("this is no deed")

    def do_write(self, name, program):
        """As write, but for the log."""
        if not is_name(name):
            raise NoName("this is no name")
        need_program(program)
        if name not in self._works and len(self._works) == _WORKS:
            raise TooMany("there are as many works as may be")
        code = made(program)
        bench = Bench(code, self._machine, most=self._most)
        self._undo.append((name, self._works.get(name), False))
        self._works[name] = (program, bench)
        return len(code[4])

    def do_tune(self, name, passes):
        """As tune, but for the log."""
        program, bench = self.work(name)
        code, told = tuned(bench.code(), self._machine, passes, most=self._most)
        self._undo.append((name, (program, bench), False))
        self._works[name] = (program, Bench(code, self._machine, most=self._most))
        return tuple([word for word, _, _ in told])

    def do_change(self, name, row, new):
        """As change, but for the log."""
        program, bench = self.work(name)
        told = bench.change(row, new)
        self._undo.append((name, (program, bench), True))
        self._works[name] = (None, bench)
        return told

    def do_drop(self, name):
        """As drop, but for the log."""
        self._undo.append((name, self.work(name), False))
        del self._works[name]

    def do_back(self):
        """As back, but for the log."""
        if not self._undo:
            raise NoDeed("no deed stands")
        name, work, changed = self._undo.pop()
        if work is None:
            del self._works[name]
            return
        if changed:
            work[1].back()
        self._works[name] = work

    def shape(self):
        """All that yards must have in common to be equal."""
        return (self._machine, self._most, [(name, self.program(name), self.code(name)) for name in self.names()])

    def __eq__(self, other):
        """Whether it is a yard of equal machine and most, with equal works, whatever was done on the way."""
        return isinstance(other, Yard) and self.shape() == other.shape()

    def __len__(self):
        """How many works there are."""
        return len(self._works)

    def __repr__(self):
        """How many works there are, in words."""
        return f"Yard({len(self._works)} works)"


def is_deed(thing):
    """Whether it is a deed by its word and length."""
    if type(thing) is not tuple or not thing or type(thing[0]) is not str:
        return False
    return _PARTS.get(thing[0]) == len(thing)
