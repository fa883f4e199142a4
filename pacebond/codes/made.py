"""Codes made of programs."""

from pacebond.codes.codes import given_by, need_short, read_by
from pacebond.text.programs import need_program, variables_in
from pacebond.text.terms import is_name, is_worth


def made(program):
    """The code that is made of the program."""
    need_program(program)
    asks, arrays, body = program
    names = variables_in(asks, body)
    # No variable has an array's name, so one dict holds the registers of the ones and the numbers of the others.
    numbers = {name: at for at, name in enumerate(names)}
    numbers.update({array[0]: at for at, array in enumerate(arrays)})
    rows = tuple(body_rows(body, 0, len(names), numbers)) + (("end",),)
    need_short(rows)
    spans = tuple([(low, high) for _, low, high in asks])
    return (spans, registers_in(rows, len(names)), len(names), tuple([many for _, many in arrays]), rows)


def registers_in(rows, variables):
    """How many registers these rows and so many variables take, 1 at least."""
    found = [one for row in rows for one in read_by(row)]
    found.extend([given_by(row) for row in rows if given_by(row) is not None])
    return max([1, variables] + [one + 1 for one in found])


def body_rows(body, at, fresh, numbers):
    """The rows of statements, the first one of which has number at; fresh is the first register of no variable."""
    rows = []
    for statement in body:
        rows.extend(statement_rows(statement, at + len(rows), fresh, numbers))
    return rows


def statement_rows(statement, at, fresh, numbers):
    """The rows of a statement; at and fresh as for the rows of statements."""
    word = statement[0]
    if word == "set":
        return set_rows(numbers[statement[1]], statement[2], fresh, numbers)
    if word == "put":
        rows, place, other = pair_rows(statement[2], statement[3], fresh, numbers)
        return rows + [("put", numbers[statement[1]], place, other)]
    if word == "if":
        return if_rows(statement, at, fresh, numbers)
    return loop_rows(statement, at, fresh, numbers)


def set_rows(variable, term, fresh, numbers):
    """The rows that set a variable."""
    if is_name(term):
        return [("copy", variable, numbers[term])]
    rows, _ = term_rows(term, fresh, numbers)
    last = rows[-1]
    return rows[:-1] + [(last[0], variable) + last[2:]]


def if_rows(statement, at, fresh, numbers):
    """The rows of an if."""
    _, term, some, others = statement
    rows, place = term_rows(term, fresh, numbers)
    inner = body_rows(some, at + len(rows) + 1, fresh, numbers)
    behind = at + len(rows) + 1 + len(inner)
    if others == ():
        return rows + [("test", place, behind)] + inner
    more = body_rows(others, behind + 1, fresh, numbers)
    return rows + [("test", place, behind + 1)] + inner + [("go", behind + 1 + len(more))] + more


def loop_rows(statement, at, fresh, numbers):
    """The rows of a loop."""
    _, most, term, some = statement
    rows, place = term_rows(term, fresh, numbers)
    inner = body_rows(some, at + 1 + len(rows) + 1, fresh, numbers)
    again = at + 1 + len(rows) + 1 + len(inner)
    return [("count", most)] + rows + [("test", place, again + 1)] + inner + [("again", at + 1)]


def term_rows(term, fresh, numbers):
    """(rows, place) of a term from register fresh on."""
    if is_worth(term):
        return ([("set", fresh, term)], fresh)
    if is_name(term):
        return ([], numbers[term])
    word, first, second = term
    if word == "at":
        rows, place = term_rows(second, fresh, numbers)
        return (rows + [("get", fresh, numbers[first], place)], fresh)
    rows, place, other = pair_rows(first, second, fresh, numbers)
    return (rows + [(word, fresh, place, other)], fresh)


def pair_rows(first, second, fresh, numbers):
    """(rows, place, other place) of two terms, one behind another, from register fresh on."""
    rows, place = term_rows(first, fresh, numbers)
    more, other = term_rows(second, fresh + 1 if place == fresh else fresh, numbers)
    return (rows + more, place, other)
