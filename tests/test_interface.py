"""Each name of the interface stands where it is listed, is defined there, and takes what it is listed with."""

import importlib
import inspect
import unittest

LISTED = {
    "codes.made": ["made(program)"],
    "bounds.heights": [
        "heights_of(code, machine, *, most=1000)", "depths_of(code, machine, *, most=1000)",
        "shows_heights(code, machine, thing)", "shows_depths(code, machine, thing)",
    ],
    "bounds.longest": [
        "bound_of(code, machine, *, most=1000)", "swiftest_of(code, machine, *, most=1000)",
        "longest(code, machine, *, most=1000)", "shortest(code, machine, *, most=1000)",
        "shows_longest(code, machine, thing)", "shows_shortest(code, machine, thing)",
    ],
    "bounds.worst": [
        "worst_of(code, machine)", "spread_of(code, machine)", "slower(code, other, machine)",
        "slack_of(code, machine, *, most=1000)", "sharp(code, machine, *, most=1000)",
        "shows_sharp(code, machine, thing, *, most=1000)",
    ],
    "sure.hits": [
        "sure_row(code, machine, row, *, most=1000)", "shows_sure_row(code, machine, row, thing)",
        "sure_cells(code, machine, row, *, most=1000)", "shows_sure_cells(code, machine, row, thing)",
        "sure_rows(code, machine, *, most=1000)",
    ],
    "sure.sheets": [
        "behind_row(code, machine, row, lines)", "sheet_of(code, machine)", "is_sheet(code, machine, thing)",
        "hits_by(code, machine, sheet)",
    ],
    "passes.threaded": ["threaded(code)"],
    "passes.dropped": ["dropped(code)", "dead_rows(code)"],
    "passes.exchanged": ["exchanged(code, row)"],
    "passes.laid": ["laid(code, row)"],
    "passes.folded": ["known_of(code)", "folded(code)"],
    "passes.turned": ["turned(code, row)"],
    "passes.tuned": [
        "is_passes(thing)", "passed(code, one)", "tuned(code, machine, passes, *, most=1000)",
        "tuned_paper(code, machine, passes, *, most=1000)", "shows_tuned(code, machine, passes, thing, *, most=1000)",
    ],
    "cuts.seams": [
        "seams_of(code)", "piece_bound(code, machine, seam, other, *, most=1000)",
        "piece_heights(code, machine, seam, other, *, most=1000)", "shows_piece(code, machine, seam, other, thing)",
        "piece_ticks(code, machine, seam, other, thing)",
    ],
    "cuts.cuts": [
        "cut_of(code, machine, share, *, most=1000)", "cut_paper(code, machine, share, *, most=1000)",
        "shows_cut(code, machine, share, thing, *, most=1000)",
    ],
    "wire.gaps": ["gaps_of(code, machine, worths)"],
    "wire.together": [
        "is_works(thing)", "played(machine, works)", "joined_of(code, machine, others, *, most=1000)",
        "joined_heights(code, machine, others, *, most=1000)", "shows_joined(code, machine, others, thing)",
    ],
    "words.texts": [
        "program_text(program)", "code_text(code)", "row_text(row)", "passes_text(passes)", "numbers_text(numbers)",
        "read_program(text)", "read_code(text)", "read_row(text)", "read_passes(text)",
    ],
}

# Each method has to stand in the class itself.
CLASSES = {
    "bench.bench.Bench": [
        "__init__(self, code, machine, *, most=1000)", "change(self, row, new)", "back(self)", "code(self)", "machine(self)",
        "bound(self)", "heights(self)", "judged(self)", "__eq__(self, other)", "__len__(self)", "__str__(self)", "__repr__(self)",
    ],
    "bench.yard.Yard": [
        "__init__(self, machine, *, most=1000)", "write(self, name, program)", "tune(self, name, passes)",
        "change(self, name, row, new)", "drop(self, name)", "back(self)", "run(self, deeds)", "runs(self)", "log(self)",
        "names(self)", "program(self, name)", "code(self, name)", "bound(self, name)", "worst(self, name)", "slack(self, name)",
        "cut(self, name, share)", "joined(self, name)", "sure(self, name)", "told(self, name, worths)", "__eq__(self, other)",
        "__len__(self)", "__repr__(self)",
    ],
    "words.desk.Desk": ["__init__(self)", "say(self, row)", "many(self, rows)", "log(self)", "yard(self)", "__len__(self)"],
}


class Interface(unittest.TestCase):
    def test_each_name(self):
        for module, listed in LISTED.items():
            there = importlib.import_module("pacebond." + module)
            for wanted in listed:
                name = wanted[:wanted.index("(")]
                found = getattr(there, name)
                self.assertEqual(name + str(inspect.signature(found)), wanted)
                self.assertEqual(found.__module__, "pacebond." + module)

    def test_each_method(self):
        for path, listed in CLASSES.items():
            module, _, word = path.rpartition(".")
            found = getattr(importlib.import_module("pacebond." + module), word)
            self.assertEqual(found.__module__, "pacebond." + module)
            for wanted in listed:
                name = wanted[:wanted.index("(")]
                self.assertIn(name, vars(found))
                self.assertEqual(name + str(inspect.signature(vars(found)[name])), wanted)


if __name__ == "__main__":
    unittest.main()
