"""What passes share: rows that come, go and lead anew."""

from pacebond.codes.codes import JUMPS


def with_rows(code, rows):
    """The code with other rows."""
    asks, many, shown, arrays, _ = code
    return (asks, many, shown, arrays, tuple(rows))


def leads(row):
    """Whether a row is a jump or an again, so that it tells a row to which it goes."""
    return row[0] in JUMPS or row[0] == "again"


def led_anew(row, numbers):
    """A row that goes to the row to which it went, numbers being those that the rows have now."""
    return row[:-1] + (numbers[row[-1]],) if leads(row) else row
