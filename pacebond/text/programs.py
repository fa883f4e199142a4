"""Programs, and their variables."""

from pacebond.errors import NoProgram
from pacebond.kinds import are_unlike, is_row, is_whole
from pacebond.text.terms import is_name, is_term, is_worth

BODIES_WITHIN = 3

_ASKS = 3
_ARRAYS = 2
_CELLS = 6
_BESIDE = 8
_ROUNDS = 6
_LOOPS_WITHIN = 2
_STATEMENTS = 24
_VARIABLES = 6


def is_program(thing):
    """Whether it is a program."""
    if not is_row(thing, 3, 3):
        return False
    asks, arrays, body = thing
    if not (are_asks(asks) and are_arrays(arrays) and are_statements(body, BODIES_WITHIN, _LOOPS_WITHIN)):
        return False
    return statements_in(body) <= _STATEMENTS and are_well_named(asks, arrays, body)


def need_program(program):
    """Refuses what is no program."""
    if not is_program(program):
        raise NoProgram("this is no program")


def variables(program):
    """The names of the asks, in order, then all others but arrays', rising."""
    need_program(program)
    asks, _, body = program
    return tuple(variables_in(asks, body))


def is_ask(thing):
    """Whether it is (name, low, high)."""
    if not is_row(thing, 3, 3):
        return False
    name, low, high = thing
    return is_name(name) and is_worth(low) and is_worth(high) and low <= high


def are_asks(thing):
    """Whether it is a row of asks, by their form."""
    return is_row(thing, 0, _ASKS) and all([is_ask(one) for one in thing])


def is_array(thing):
    """Whether it is (name, many)."""
    return is_row(thing, 2, 2) and is_name(thing[0]) and is_whole(thing[1], 1, _CELLS)


def are_arrays(thing):
    """Whether it is a row of arrays, by their form."""
    return is_row(thing, 0, _ARRAYS) and all([is_array(one) for one in thing])


def are_statements(thing, left, loops_left):
    """Whether it is statements, with so many ifs and loops, so many of them loops, within one another."""
    if not is_row(thing, 0, _BESIDE):
        return False
    return all([is_statement(one, left, loops_left) for one in thing])


def is_statement(thing, left, loops_left):
    """Whether it is a statement by its form; left and loops_left as for statements."""
    if not is_row(thing, 3, 4):
        return False
    if len(thing) == 3:
        return thing[0] == "set" and is_name(thing[1]) and is_term(thing[2])
    word, first, second, third = thing
    if word == "put":
        return is_name(first) and is_term(second) and is_term(third)
    if left == 0:
        return False
    if word == "if":
        inner = [are_statements(some, left - 1, loops_left) for some in (second, third)]
        return is_term(first) and all(inner)
    if word != "loop" or loops_left == 0:
        return False
    return is_whole(first, 1, _ROUNDS) and is_term(second) and are_statements(third, left - 1, loops_left - 1)


def bodies_of(statement):
    """The statements that stand within a statement."""
    if statement[0] == "if":
        return (statement[2], statement[3])
    return (statement[3],) if statement[0] == "loop" else ()


def terms_of(statement):
    """The terms of a statement itself."""
    if statement[0] == "if":
        return (statement[1],)
    return (statement[2], statement[3]) if statement[0] == "put" else (statement[2],)


def statements_in(body):
    """How many statements there are in all."""
    return len(body) + sum([statements_in(part) for one in body for part in bodies_of(one)])


def names_of_term(term):
    """The names in a term, as (names, arrays' names)."""
    if is_worth(term):
        return ([], [])
    if is_name(term):
        return ([term], [])
    word, first, second = term
    names, arrays = names_of_term(second)
    if word == "at":
        return (names, [first] + arrays)
    more_names, more_arrays = names_of_term(first)
    return (more_names + names, more_arrays + arrays)


def names_in(body):
    """The names in statements, as (names, arrays' names), each name as often as it stands there."""
    names = []
    arrays = []
    for statement in body:
        if statement[0] == "set":
            names.append(statement[1])
        if statement[0] == "put":
            arrays.append(statement[1])
        found = [names_of_term(term) for term in terms_of(statement)]
        found.extend([names_in(part) for part in bodies_of(statement)])
        for more_names, more_arrays in found:
            names.extend(more_names)
            arrays.extend(more_arrays)
    return (names, arrays)


def variables_in(asks, body):
    """The variables of a program whose asks and statements are well by their form."""
    asked = [ask[0] for ask in asks]
    names, _ = names_in(body)
    return asked + [name for name in sorted(set(names)) if name not in asked]


def are_well_named(asks, arrays, body):
    """Whether arrays' names stand just where they are asked for, and names are unlike and not too many."""
    owned = [array[0] for array in arrays]
    _, used = names_in(body)
    names = variables_in(asks, body)
    if not (are_unlike([ask[0] for ask in asks] + owned) and len(names) <= _VARIABLES):
        return False
    return all([name in owned for name in used]) and not any([name in owned for name in names])
