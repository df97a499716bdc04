"""The plain kinds of values that all modules share."""

LONGEST_NAME = 8


def is_whole(thing):
    """Whether thing is a whole number; a truth is an int to Python, but no number here."""
    return isinstance(thing, int) and not isinstance(thing, bool)


def is_name(thing):
    """Whether thing is a name."""
    if not isinstance(thing, str) or not 1 <= len(thing) <= LONGEST_NAME:
        return False
    return all(["a" <= letter <= "z" for letter in thing])
