"""Programs, codes, rows, passes and numbers, written as texts and read from them."""

from pacebond.codes.codes import is_code, is_some_row, need_code
from pacebond.errors import NoPasses, NoText
from pacebond.kinds import is_count
from pacebond.passes.tuned import is_passes
from pacebond.text.programs import BODIES_WITHIN, is_program, need_program
from pacebond.text.terms import TERMS_WITHIN, is_op

_FIGURES = 40
_NOTHING = "-"


def program_text(program):
    """A program: its asks, its arrays, its statements."""
    need_program(program)
    asks, arrays, body = program
    return " | ".join([heads_text(asks), heads_text(arrays), body_text(body)])


def code_text(code):
    """A code: its asks, its registers and how many are shown, its arrays' sizes, its rows."""
    need_code(code)
    asks, many, shown, arrays, rows = code
    written = " ; ".join([parts_text(row) for row in rows])
    return " | ".join([heads_text(asks), f"{many} {shown}", numbers_text(arrays), written])


def row_text(row):
    """A row that some code may have."""
    if not is_some_row(row):
        raise NoText("no code has such a row")
    return parts_text(row)


def passes_text(passes):
    """Passes."""
    if not is_passes(passes):
        raise NoPasses("these are no passes")
    return heads_text(passes)


def numbers_text(numbers):
    """A row of numbers."""
    if type(numbers) is not tuple or not all([is_count(number) for number in numbers]):
        raise NoText("this is no row of numbers")
    return ",".join([str(number) for number in numbers]) or _NOTHING


def read_program(text):
    """The program that is so written."""
    asks, arrays, body = pieces(text, " | ", 3)
    words = Words(body)
    program = (read_heads(asks), read_heads(arrays), words.statements(BODIES_WITHIN))
    if not words.are_taken() or not is_program(program):
        raise NoText("no program is so written")
    return program


def read_code(text):
    """The code that is so written."""
    asks, registers, arrays, rows = pieces(text, " | ", 4)
    many, shown = [number_in(part) for part in pieces(registers, " ", 2)]
    spans = tuple([tuple([number_in(part) for part in ask.split(" ")]) for ask in parted(asks)])
    code = (spans, many, shown, numbers_in(arrays), tuple([word_and_numbers(row) for row in rows.split(" ; ")]))
    if not is_code(code):
        raise NoText("no code is so written")
    return code


def read_row(text):
    """The row of some code that is so written."""
    need_text(text)
    row = word_and_numbers(text)
    if not is_some_row(row):
        raise NoText("no row is so written")
    return row


def read_passes(text):
    """The passes that are so written."""
    need_text(text)
    passes = read_heads(text)
    if not is_passes(passes):
        raise NoText("no passes are so written")
    return passes


def heads_text(heads):
    """Asks, arrays or passes, each as its parts."""
    return ", ".join([parts_text(head) for head in heads]) or _NOTHING


def parts_text(parts):
    """A term, a row or another row of parts, each part's own parts behind its word."""
    return " ".join([parts_text(part) if type(part) is tuple else str(part) for part in parts])


def body_text(body):
    """Statements."""
    return " ; ".join([statement_text(statement) for statement in body]) or _NOTHING


def statement_text(statement):
    """A statement, those within it between signs of their own."""
    if statement[0] == "if":
        _, term, some, others = statement
        return " ".join([parts_text(("if", term)), inner_text(some), inner_text(others)])
    if statement[0] == "loop":
        _, most, term, some = statement
        return " ".join([parts_text(("loop", most, term)), inner_text(some)])
    return parts_text(statement)


def inner_text(body):
    """Statements within another one."""
    return f"( {body_text(body)} )"


def need_text(text):
    """Refuses what is no text."""
    if type(text) is not str:
        raise NoText("this is no text")


def pieces(text, sign, many):
    """The pieces of a text between signs, which have to be so many."""
    need_text(text)
    parts = text.split(sign)
    if len(parts) != many:
        raise NoText("it has other parts")
    return parts


def parted(text):
    """The texts between commas, none where nothing is written."""
    return [] if text == _NOTHING else text.split(", ")


def is_number_text(text):
    """Whether it is a number so written."""
    if not 1 <= len(text) <= _FIGURES or not all([sign in "0123456789" for sign in text]):
        return False
    return len(text) == 1 or text[0] != "0"


def number_in(text):
    """The number that is so written."""
    if not is_number_text(text):
        raise NoText("no number is so written")
    return int(text)


def is_numbers_text(text):
    """Whether it is a row of numbers so written."""
    return text == _NOTHING or all([is_number_text(part) for part in text.split(",")])


def numbers_in(text):
    """The row of numbers that is so written."""
    return () if text == _NOTHING else tuple([number_in(part) for part in text.split(",")])


def word_and_numbers(text):
    """(word, numbers ..) of a text of such parts."""
    parts = text.split(" ")
    return (parts[0],) + tuple([number_in(part) for part in parts[1:]])


def read_heads(text):
    """Asks, arrays or passes, by their parts alone."""
    return tuple([word_and_numbers(head) for head in parted(text)])


class Words:
    """The words of statements, taken one behind another."""

    def __init__(self, text):
        self.words = text.split(" ")
        self.at = 0

    def are_taken(self):
        """Whether all of them are behind."""
        return self.at >= len(self.words)

    def comes(self):
        """The next word, "" where there is none."""
        return "" if self.are_taken() else self.words[self.at]

    def take(self):
        """The next word, which is behind then."""
        word = self.comes()
        self.at += 1
        return word

    def skip(self, sign):
        """Takes a sign, which has to come."""
        if self.take() != sign:
            raise NoText("another sign stands there")

    def statements(self, left):
        """Statements, with so many ifs and loops within one another."""
        if self.comes() == _NOTHING:
            self.skip(_NOTHING)
            return ()
        told = [self.statement(left)]
        while self.comes() == ";":
            self.skip(";")
            told.append(self.statement(left))
        return tuple(told)

    def statement(self, left):
        """A statement, with so many ifs and loops within one another."""
        word = self.take()
        if word == "set":
            return (word, self.take(), self.term(TERMS_WITHIN))
        if word == "put":
            return (word, self.take(), self.term(TERMS_WITHIN), self.term(TERMS_WITHIN))
        # Nothing bounds how far a text goes on, so what is within too much is refused before it is read.
        if left == 0 or word not in ("if", "loop"):
            raise NoText("no statement is so written")
        if word == "if":
            return (word, self.term(TERMS_WITHIN), self.inner(left - 1), self.inner(left - 1))
        return (word, number_in(self.take()), self.term(TERMS_WITHIN), self.inner(left - 1))

    def inner(self, left):
        """The statements within another one."""
        self.skip("(")
        told = self.statements(left)
        self.skip(")")
        return told

    def term(self, left):
        """A term, of at most so many ops and ats within one another; any other word does for a name."""
        word = self.take()
        if is_number_text(word):
            return int(word)
        if not is_op(word) and word != "at":
            return word
        if left == 0:
            raise NoText("no term is so written")
        first = self.take() if word == "at" else self.term(left - 1)
        return (word, first, self.term(left - 1))
