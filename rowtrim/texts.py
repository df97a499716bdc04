"""How rowers, fractions and pieces are written, and read back."""

from rowtrim.errors import NoText
from rowtrim.pieces import is_piece
from rowtrim.rowers import is_rower

# The greatest number that is read is 10 ** 9.
MOST_FIGURES = 10


def show_rower(rower):
    """The rower as NAME:SIDES:WEIGHT."""
    name, sides, weight = rower
    return f"{name}:{sides}:{weight}"


def show_fraction(fraction):
    """The fraction as its top alone, or with / and the bottom."""
    top, bottom = fraction
    if bottom == 1:
        return str(top)
    return f"{top}/{bottom}"


def show_crew(crew):
    """The crew's names with + between."""
    return "+".join(crew)


def show_piece(piece):
    """The piece's five parts, one blank between."""
    first, second, time, other, course = piece
    return f"{show_crew(first)} {show_crew(second)} {time} {other} {course}"


def is_number_text(text, most):
    """Whether text is a number from 0 on, written by at most so many figures."""
    if not 1 <= len(text) <= most or not all(["0" <= sign <= "9" for sign in text]):
        return False
    return text == "0" or not text.startswith("0")


def read_number(text):
    """The number that is so written."""
    if not is_number_text(text, MOST_FIGURES):
        raise NoText("no number is written so")
    return int(text)


def read_parts(text, between, many):
    """The parts of a text, with the sign between them; they must be so many."""
    if not isinstance(text, str):
        raise NoText("this is no text")
    parts = text.split(between)
    if len(parts) != many:
        raise NoText("not as many parts")
    return parts


def read_rower(text):
    """The rower that is so written."""
    name, sides, weight = read_parts(text, ":", 3)
    rower = (name, sides, read_number(weight))
    if not is_rower(rower):
        raise NoText("no rower is written so")
    return rower


def read_piece(text):
    """The piece that is so written."""
    first, second, time, other, course = read_parts(text, " ", 5)
    crews = (tuple(first.split("+")), tuple(second.split("+")))
    piece = crews + (read_number(time), read_number(other), read_number(course))
    if not is_piece(piece):
        raise NoText("no piece is written so")
    return piece
