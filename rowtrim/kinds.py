"""The plain kinds of values that all modules share."""

LONGEST_NAME = 8


def is_whole(thing):
    """Whether thing is a whole number; a truth is an int to Python, but no number here."""
    return isinstance(thing, int) and not isinstance(thing, bool)


def is_name(thing):
    """Whether thing is a name."""
    if not isinstance(thing, str) or not 1 <= len(thing) <= LONGEST_NAME:
        return False
    return all(["a" <= letter <= "z" for letter in thing])


def fraction(top, bottom):
    """The fraction top over bottom, from 1 on, in lowest terms."""
    divisor, rest = bottom, abs(top)
    while rest > 0:
        divisor, rest = rest, divisor % rest
    return (top // divisor, bottom // divisor)


def fraction_less(one, other):
    """The one fraction less the other one."""
    return fraction(one[0] * other[1] - other[0] * one[1], one[1] * other[1])
