"""All seatings of rowers in a rig, and the best of them."""

from rowtrim.errors import TooMany
from rowtrim.rowers import names_for, trim_of

MOST_TOLD = 400


def every_seating(rowers, rig):
    """All seatings, however many; rising, since each seat takes the names rising."""
    begun = [()]
    for side in rig:
        names = names_for(rowers, side)
        begun = [start + (name,) for start in begun for name in names if name not in start]
    return begun


def how_many(rowers, rig):
    """How many seatings there are."""
    return len(every_seating(rowers, rig))


def seatings(rowers, rig):
    """All seatings, rising, unless they are too many to be told."""
    found = every_seating(rowers, rig)
    if len(found) > MOST_TOLD:
        raise TooMany(len(found))
    return found


def short_seats(rowers, rig):
    """Which seats too few can row, where there is no seating."""
    for side in ("port", "starboard"):
        seats = rig.count(side)
        can = len(names_for(rowers, side))
        if seats > can:
            return ("seats", side, seats, can)
    # Enough for each side alone, and still no seating: then they are too few for both together.
    return ("seats", "both", len(rig), len(rowers))


def seated(rowers, rig, most=0):
    """The first seating within the trim, or the least trim there is, or the seats that fall short."""
    found = [(seating, trim_of(rowers, rig, seating)) for seating in every_seating(rowers, rig)]
    if not found:
        return short_seats(rowers, rig)
    for seating, trim in found:
        if abs(trim) <= most:
            return ("seating", seating, trim)
    nearest, trim = min(found, key=lambda pair: (abs(pair[1]), pair[0]))
    return ("trim", abs(trim), nearest)


def moved_seats(seating, other):
    """How many seats have another name in the other seating."""
    return len([seat for seat, name in enumerate(seating) if other[seat] != name])


def reseated(rowers, rig, seating, absent):
    """The seating without the absent ones that moves fewest, and of these is trimmed best."""
    others = [rower for rower in rowers if rower[0] not in absent]
    found = every_seating(others, rig)
    if not found:
        return short_seats(others, rig)
    fewest = min([moved_seats(seating, other) for other in found])
    nearest = [other for other in found if moved_seats(seating, other) == fewest]
    return (fewest, min(nearest, key=lambda other: (abs(trim_of(others, rig, other)), other)))
