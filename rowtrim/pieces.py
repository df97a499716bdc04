"""Pieces that two crews race, and the trials that two pieces are."""

from rowtrim.errors import NoTrial
from rowtrim.kinds import fraction, fraction_less, is_name, is_whole

MOST_IN_CREW = 4
LONGEST = 10 ** 9


def is_crew(thing):
    """Whether thing is a crew, a rising tuple of names."""
    if not isinstance(thing, tuple) or not 1 <= len(thing) <= MOST_IN_CREW:
        return False
    if not all([is_name(name) for name in thing]):
        return False
    return all([name < behind for name, behind in zip(thing, thing[1:])])


def is_measure(thing):
    """Whether thing is a time or a course."""
    return is_whole(thing) and 1 <= thing <= LONGEST


def is_piece(thing):
    """Whether thing is a piece, (first, second, time, other, course)."""
    if not isinstance(thing, tuple) or len(thing) != 5:
        return False
    first, second, time, other, course = thing
    if not is_crew(first) or not is_crew(second) or len(first) != len(second):
        return False
    if any([name in second for name in first]):
        return False
    return is_measure(time) and is_measure(other) and is_measure(course)


def margin(piece):
    """By how much the second crew's time is more than the first one's, for one of the course."""
    first, second, time, other, course = piece
    return fraction(other - time, course)


def exchanged(crew, leaves, enters):
    """The crew with one name out and another one in."""
    return tuple(sorted([name for name in crew if name != leaves] + [enters]))


def exchanged_pair(one, other):
    """Who of the one piece's first crew and who of its second are exchanged in the other piece."""
    for mine in one[0]:
        for yours in one[1]:
            if other[:2] == (exchanged(one[0], mine, yours), exchanged(one[1], yours, mine)):
                return (mine, yours)
    raise NoTrial("not one of each crew is exchanged")


def trial_of(one, other):
    """The trial (more, less, by) that two pieces are."""
    mine, yours = exchanged_pair(one, other)
    top, bottom = fraction_less(margin(one), margin(other))
    if top > 0:
        return (mine, yours, (top, bottom))
    if top < 0:
        return (yours, mine, (-top, bottom))
    return (min(mine, yours), max(mine, yours), (0, 1))
