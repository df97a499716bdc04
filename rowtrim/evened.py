"""Rowers parted in two crews of about one weight."""

from rowtrim.errors import NoCrew


def rising_picks(names, many):
    """All rising tuples of so many of the names, rising themselves where the names do."""
    picks = [()]
    for length in range(many):
        # An empty tuple stands ahead of all others, so that any name can be the first of a pick.
        picks = [pick + (name,) for pick in picks for name in names if pick[-1:] < (name,)]
    return picks


def crews_with_first(names):
    """All crews of half of the names that have the first of them: each stands for one parting."""
    rising = sorted(names)
    return [tuple(rising[:1]) + pick for pick in rising_picks(rising[1:], len(rising) // 2 - 1)]


def evened(rowers):
    """The least difference of two crews' weights, and the first crew of such a parting."""
    if len(rowers) % 2 == 1:
        raise NoCrew("an odd number of rowers")
    weights = {name: weight for name, sides, weight in rowers}
    whole = sum(weights.values())
    partings = []
    for crew in crews_with_first(list(weights)):
        ours = sum([weights[name] for name in crew])
        partings.append((abs(whole - 2 * ours), crew))
    return min(partings)
