"""Programs run by their own plain steps."""

from pacebond.errors import NoInput
from pacebond.kinds import fits
from pacebond.text.programs import need_program, variables_in
from pacebond.text.terms import OPS, is_name, is_worth


def plainly(program, worths):
    """What the program tells: the variables' worths, and for each array its cells."""
    return done_plainly(program, worths)[0]


def rounds(program, worths):
    """How many rounds of loops are done in all."""
    return done_plainly(program, worths)[1]


def done_plainly(program, worths):
    """(what it tells, how many rounds are done)."""
    need_program(program)
    asks, arrays, body = program
    if not fits(worths, [(low, high) for _, low, high in asks]):
        raise NoInput("this is no input of the program")
    held = {name: 0 for name in variables_in(asks, body)}
    for ask, worth in zip(asks, worths):
        held[ask[0]] = worth
    cells = {name: [0] * many for name, many in arrays}
    done = do(body, held, cells)
    # held began with the variables in their order, and a dict keeps it.
    return ((tuple(held.values()), tuple([tuple(cells[name]) for name, _ in arrays])), done)


def worth_of(term, held, cells):
    """The worth of a term."""
    if is_worth(term):
        return term
    if is_name(term):
        return held[term]
    word, first, second = term
    if word == "at":
        return cells[first][numbered(second, first, held, cells)]
    op = OPS[word]
    return op(worth_of(first, held, cells), worth_of(second, held, cells))


def numbered(term, name, held, cells):
    """The number of the array's cell that a term means."""
    return worth_of(term, held, cells) % len(cells[name])


def do(body, held, cells):
    """Does statements one behind another; told is how many rounds of loops that took."""
    done = 0
    for statement in body:
        done += do_one(statement, held, cells)
    return done


def do_one(statement, held, cells):
    """Does one statement; told is how many rounds of loops that took."""
    word = statement[0]
    if word == "loop":
        return do_loop(statement, held, cells)
    if word == "if":
        _, term, some, others = statement
        return do(some if worth_of(term, held, cells) != 0 else others, held, cells)
    if word == "set":
        held[statement[1]] = worth_of(statement[2], held, cells)
    else:
        _, name, where, term = statement
        cells[name][numbered(where, name, held, cells)] = worth_of(term, held, cells)
    return 0


def do_loop(statement, held, cells):
    """Does a loop; told is how many rounds that took, those of loops within it too."""
    _, most, term, some = statement
    done = 0
    inner = 0
    while done < most and worth_of(term, held, cells) != 0:
        inner += do(some, held, cells)
        done += 1
    return done + inner
