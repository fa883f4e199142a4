"""A desk: a yard that is spoken to by rows of words."""

from pacebond.bench.yard import Yard
from pacebond.errors import NoLine
from pacebond.machine.near import is_machine
from pacebond.text.terms import is_name
from pacebond.words.texts import code_text, numbers_text, read_passes, read_program, read_row
from pacebond.words.texts import is_number_text, is_numbers_text, numbers_in

# What stands behind each word: a name, a number, a row of numbers, or all that is left, whatever it is.
_FORMS = {
    "machine": "nnn",
    "write": "a*",
    "tune": "a*",
    "change": "an*",
    "drop": "a",
    "back": "",
    "code": "a",
    "bound": "a",
    "joined": "a",
    "slack": "a",
    "worst": "a",
    "told": "ar",
    "cut": "an",
    "sure": "a",
    "names": "",
}
_DEEDS = ("write", "tune", "change", "drop", "back")
_OK = "ok"


class Desk:
    """A desk, which has no yard at first."""

    def __init__(self):
        self._yard = None
        self._said = []

    def say(self, row):
        """Says a row; told is the answer."""
        self._said.append(row if type(row) is str else "")
        parts = read_line(row)
        if parts[0] == "machine":
            if not is_machine(parts[1:]):
                raise NoLine("this is no machine")
            self._yard = Yard(parts[1:])
            return _OK
        if self._yard is None:
            raise NoLine("there is no machine yet")
        return done(self._yard, parts) if parts[0] in _DEEDS else asked_of(self._yard, parts)

    def many(self, rows):
        """Says rows one by one, up to the first that is refused; told are the answers."""
        if type(rows) is not tuple:
            raise NoLine("these are no rows")
        return tuple([self.say(row) for row in rows])

    def log(self):
        """Both ends of each row said, refused ones too."""
        return tuple([(end, row) for row in self._said for end in ("in", "out")])

    def yard(self):
        """The yard, None where there is none yet."""
        return self._yard

    def __len__(self):
        """How many rows were said."""
        return len(self._said)


def read_line(row):
    """(word, parts ..) of a row by its form: names and texts as they stand, numbers and rows of them read."""
    if type(row) is not str:
        raise NoLine("this is no text")
    word = row.partition(" ")[0]
    if word not in _FORMS:
        raise NoLine("there is no such word")
    form = _FORMS[word]
    # What is left behind the last blank that the form has is the last part, blanks and all.
    parts = row.split(" ", len(form))
    if parts[0] != word or len(parts) != len(form) + 1:
        raise NoLine("it has other parts")
    return (word,) + tuple([read_part(kind, part) for kind, part in zip(form, parts[1:])])


def read_part(kind, part):
    """A part of a row by its kind."""
    if kind == "*" or (kind == "a" and is_name(part)):
        return part
    if kind == "n" and is_number_text(part):
        return int(part)
    if kind == "r" and is_numbers_text(part):
        return numbers_in(part)
    raise NoLine("a part is not so written")


def done(yard, parts):
    """Does a deed in a yard; told is the answer."""
    word = parts[0]
    if word == "write":
        return str(yard.write(parts[1], read_program(parts[2])))
    if word == "tune":
        return words_text(yard.tune(parts[1], read_passes(parts[2])))
    if word == "change":
        return str(yard.change(parts[1], parts[2], read_row(parts[3])))
    if word == "drop":
        yard.drop(parts[1])
    else:
        yard.back()
    return _OK


def asked_of(yard, parts):
    """What a yard is asked; told is the answer."""
    word = parts[0]
    if word == "names":
        return words_text(yard.names())
    name = parts[1]
    if word == "code":
        return code_text(yard.code(name))
    if word == "worst":
        ticks, worths = yard.worst(name)
        return f"{ticks} by {numbers_text(worths)}"
    if word == "told":
        (shown, _), ticks = yard.told(name, parts[2])
        return f"{numbers_text(shown)} in {ticks}"
    if word == "cut":
        what, seams = yard.cut(name, parts[2])
        return f"{what} {numbers_text(seams)}"
    if word == "sure":
        return numbers_text(yard.sure(name))
    return str(number_of(yard, word, name))


def number_of(yard, word, name):
    """The number that a yard tells of a work by this word."""
    if word == "bound":
        return yard.bound(name)
    return yard.joined(name) if word == "joined" else yard.slack(name)


def words_text(words):
    """Words with a comma between."""
    return ",".join(words) or "-"
