"""Tables written as lines, and lines read back."""

from hirefair.errors import NoNote
from hirefair.table import check_table

FIGURES = "0123456789"


def shown_cost(cost):
    return "no" if cost is None else str(cost)


def shown(many, rows):
    check_table(many, rows)
    return [str(many)] + [",".join([shown_cost(cost) for cost in row]) for row in rows]


# Sign by sign, as figures of other scripts are digits to Python too.
def is_count(text):
    if text == "" or not all([sign in FIGURES for sign in text]):
        return False
    return text == "0" or not text.startswith("0")


def is_number(text):
    if text.startswith("-"):
        return text != "-0" and is_count(text[1:])
    return is_count(text)


def read_count(line):
    if not is_count(line):
        raise NoNote("the first line is not how many tasks there are")
    return int(line)


def read_cost(piece):
    if piece == "no":
        return None
    if not is_number(piece):
        raise NoNote("a cost is neither a whole number nor no")
    return int(piece)


# The empty text is a row of no costs, but split it would be one empty piece.
def pieces_of(line):
    return [] if line == "" else line.split(",")


def read_row(many, line):
    pieces = pieces_of(line)
    if len(pieces) != many:
        raise NoNote("a row has more or fewer costs than there are tasks")
    return [read_cost(piece) for piece in pieces]


def are_lines(lines):
    return isinstance(lines, list) and all([isinstance(line, str) for line in lines])


def read(lines):
    if not are_lines(lines) or len(lines) == 0:
        raise NoNote("there is no list of lines, or no line in it")
    many = read_count(lines[0])
    return (many, [read_row(many, line) for line in lines[1:]])
