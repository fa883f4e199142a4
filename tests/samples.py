"""What the tests share: things of any kind, parts put in the place of others, and checks to the letter."""

import unittest

from pacebond.errors import PaceError, WalkError
from pacebond.machine.moods import BEGIN, EMPTY
from pacebond.machine.steps import choices_at, step


def within(thing, deep):
    """The thing so deep within tuples."""
    for _ in range(deep):
        thing = (thing,)
    return thing


FORTY = 10 ** 40 - 1

ANYTHING = [
    True, False, None, -1, 0, 1, 7, 60, 256, FORTY, -FORTY,
    "", "a", "b", "at", "set", "end", "+", "a b", "~", "\n", "Aa", "a1",
    (), ((),), (0,), (1, 2), (1, 2, 3), (1, 2, 3, 4), (1, 2, 3, 4, 5), ("set", "a", 0), ("end",), (True,), (None,),
    [], [0], [[]], [1, 2], ["set", "a", 0], {}, {"a": 1}, {0: (1,)}, ({},), ([],), ("at", "a", {}), ({}, []),
    within(0, 16), within({}, 15), within([], 15), within("at", 16),
]


def paths(thing):
    """The places of all parts of a thing, its own first."""
    found = [()]
    if type(thing) is tuple:
        for at, part in enumerate(thing):
            found.extend([(at,) + path for path in paths(part)])
    return found


def part_at(thing, path):
    for at in path:
        thing = thing[at]
    return thing


def put_at(thing, path, part):
    """The thing with a part in the place of another one."""
    if not path:
        return part
    at = path[0]
    return thing[:at] + (put_at(thing[at], path[1:], part),) + thing[at + 1:]


def warped(thing):
    """The thing with anything in the place of each of its parts."""
    return [put_at(thing, path, part) for path in paths(thing) for part in ANYTHING]


def unlikely(thing):
    """The thing with just one part of a kind that it must not have: a list for a row, a truth for a 0 or 1."""
    found = []
    for path in paths(thing):
        part = part_at(thing, path)
        if type(part) is tuple:
            found.append(put_at(thing, path, list(part)))
        if type(part) is int:
            found.append(put_at(thing, path, [part]))
            if part in (0, 1):
                found.append(put_at(thing, path, bool(part)))
    return found


class Case(unittest.TestCase):
    """Checks of just what is told, and of just what is refused."""

    def same(self, told, wanted):
        """Told is what is wanted, also by its kinds: a row is a tuple, a number no truth."""
        self.assertEqual(repr(told), repr(wanted))

    def refuses(self, error, call, *args, **names):
        """The call is refused with just this error, which is told."""
        try:
            told = call(*args, **names)
        except (PaceError, WalkError) as refusal:
            self.assertIs(type(refusal), error)
            return refusal
        self.fail(f"{call.__name__} told {told!r} of {args!r} {names!r}")

    def truth(self, told):
        """Told is a truth and nothing else; it is told."""
        self.assertIs(type(told), bool)
        return told


class Picks:
    """Numbers that look picked at random, the same ones each time."""

    def __init__(self, seed):
        self.seed = seed

    def below(self, many):
        self.seed = (self.seed * 6364136223846793005 + 1442695040888963407) % 2 ** 64
        return (self.seed >> 33) % many

    def one(self, things):
        return things[self.below(len(things))]


def picked_code(picks, longest=14):
    """Some code, with loops, jumps and arrays as they fall."""
    asks = tuple([(low, low + picks.below(3)) for low in [picks.below(4) for _ in range(picks.below(3))]])
    many = max(1, len(asks)) + picks.below(3)
    arrays = tuple([1 + picks.below(6) for _ in range(picks.below(3))])
    rows = picked_rows(picks, 1 + picks.below(longest), 0, many, arrays)
    for at, row in enumerate(rows):
        if row[0] in ("test", "go"):
            rows[at] = row[:-1] + (picks.one(well_led(rows, at)),)
    return (asks, many, picks.below(many + 1), arrays, tuple(rows) + (("end",),))


def picked_rows(picks, long, deep, many, arrays, base=0):
    rows = []
    while len(rows) < long:
        if deep < 2 and picks.below(5) == 0:
            inner = picked_rows(picks, picks.below(5), deep + 1, many, arrays, base + len(rows) + 1)
            again = ("again", base + len(rows) + 1)
            rows.extend([("count", 1 + picks.below(3))] + inner + [again])
        else:
            rows.append(picked_row(picks, many, arrays))
    return rows


def picked_row(picks, many, arrays):
    r, s, t = picks.below(many), picks.below(many), picks.below(many)
    kinds = [("set", r, picks.below(7)), ("copy", r, s), ("rest",), ("test", s, None), ("go", None),
             (picks.one("+-*<="), r, s, t), ("*", r, s, t), ("*", r, s, t), ("-", r, s, t)]
    if arrays:
        array = picks.below(len(arrays))
        kinds.extend([("get", r, array, s), ("put", array, s, t)] * 2)
    return picks.one(kinds)


def well_led(rows, at):
    """The rows to which a jump at a row may lead, by the rule on loops read row by row."""
    loops = [(row[1] - 1, again) for again, row in enumerate(rows) if row[0] == "again"]
    found = []
    for to in range(at + 1, len(rows) + 1):
        entered = [1 for count, again in loops if to in range(count + 1, again + 1) and at not in range(count + 1, again + 1)]
        if not entered:
            found.append(to)
    return found


def all_inputs(code):
    found = [()]
    for low, high in code[0]:
        found = [worths + (worth,) for worths in found for worth in range(low, high + 1)]
    return found


def all_walks(code, machine):
    """All walks of a small code, by single steps."""
    found = []
    open_ones = [((), BEGIN)]
    while open_ones:
        choices, spot = open_ones.pop()
        if spot is None:
            found.append(choices)
            continue
        for choice in range(choices_at(code, machine, spot)):
            open_ones.append((choices + (choice,), step(code, machine, spot, choice)[4]))
    return sorted(found)


def piece_walks(code, machine, seam, other):
    """(choices, ((spot, ticks) of each step)) of all walks of a piece of a small code, by single steps."""
    found = []
    open_ones = [((), (), (seam, (), EMPTY))]
    while open_ones:
        choices, told, spot = open_ones.pop()
        if spot is None or spot[0] == other:
            found.append((choices, told))
            continue
        for choice in range(choices_at(code, machine, spot)):
            one = step(code, machine, spot, choice)
            open_ones.append((choices + (choice,), told + ((spot, sum(one[:4])),), one[4]))
    return sorted(found)
