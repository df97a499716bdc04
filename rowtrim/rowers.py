"""Rowers, rigs, and the seatings of the ones in the others."""

from rowtrim.kinds import is_name, is_whole

HEAVIEST = 10 ** 6
MOST_ROWERS = 8


def is_weight(thing):
    """Whether thing is a weight that a rower can have."""
    return is_whole(thing) and 1 <= thing <= HEAVIEST


def is_rower(thing):
    """Whether thing is a rower, (name, sides, weight)."""
    if not isinstance(thing, tuple) or len(thing) != 3:
        return False
    name, sides, weight = thing
    return is_name(name) and sides in ("port", "starboard", "both") and is_weight(weight)


def are_rowers(thing):
    """Whether thing is a list of rowers, no two of one name."""
    if not isinstance(thing, list) or not 1 <= len(thing) <= MOST_ROWERS:
        return False
    if not all([is_rower(rower) for rower in thing]):
        return False
    return len({rower[0] for rower in thing}) == len(thing)


def is_rig(thing):
    """Whether thing is a rig, the sides of its seats from the bow on."""
    if not isinstance(thing, tuple) or len(thing) not in (2, 4, 6, 8):
        return False
    # Half of each leaves no seat for anything that is no side.
    half = len(thing) // 2
    return thing.count("port") == half and thing.count("starboard") == half


def arm_of(rig, seat):
    """The arm of a seat, below 0 towards the bow."""
    return 2 * seat + 1 - len(rig)


def names_for(rowers, side):
    """The names, rising, of the rowers who can row a side."""
    return sorted([name for name, sides, weight in rowers if sides in (side, "both")])


def is_seating(rowers, rig, thing):
    """Whether thing is a seating of the rowers in the rig."""
    if not isinstance(thing, tuple) or len(thing) != len(rig):
        return False
    if not all([name in names_for(rowers, side) for name, side in zip(thing, rig)]):
        return False
    # Only now all of them are known to be texts, which a set can hold.
    return len(set(thing)) == len(thing)


def trim_of(rowers, rig, seating):
    """The sum of weights times arms."""
    weights = {name: weight for name, sides, weight in rowers}
    return sum([weights[name] * arm_of(rig, seat) for seat, name in enumerate(seating)])
