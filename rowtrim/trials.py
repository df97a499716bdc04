"""What trials tell of two rowers, of rings and of orders, and what further ones could tell."""

from rowtrim.kinds import fraction


def is_clear(trial):
    """Whether the trial is by more than nought."""
    return trial[2][0] > 0


def led_to(trial, name):
    """Whom the trial leads to from a name, or None where it doesn't lead from there."""
    if name == trial[0]:
        return trial[1]
    if name == trial[1] and not is_clear(trial):
        return trial[0]
    return None


def places_from(trials, start):
    """All (name, clear) that trials lead to from start, clear where one on the way is by more than nought."""
    places = {(start, False): True}
    waiting = [(start, False)]
    while waiting:
        name, clear = waiting.pop()
        for trial in trials:
            place = (led_to(trial, name), clear or is_clear(trial))
            if place[0] is not None and place not in places:
                places[place] = True
                waiting.append(place)
    return places


def verdict(trials, one, other):
    """What trials tell of two names: "ring", "more", "less", "alike" or "open"."""
    from_one = places_from(trials, one)
    above = (other, True) in from_one
    below = (one, True) in places_from(trials, other)
    if above and below:
        return "ring"
    if above:
        return "more"
    if below:
        return "less"
    if (other, False) in from_one:
        return "alike"
    return "open"


def ways_from(trials, starts):
    """All names that trials lead to from the starts, each with the numbers of the trials on a way by no name twice."""
    ways = {start: [] for start in starts}
    waiting = list(starts)
    while waiting:
        name = waiting.pop()
        for number, trial in enumerate(trials):
            onward = led_to(trial, name)
            if onward is not None and onward not in ways:
                ways[onward] = ways[name] + [number]
                waiting.append(onward)
    return ways


def ring(trials):
    """Numbers of trials that lead round in a ring, or None."""
    for number, trial in enumerate(trials):
        if is_clear(trial):
            ways = ways_from(trials, [trial[1]])
            if trial[0] in ways:
                return [number] + ways[trial[0]]
    return None


def leads_round(chosen, start):
    """Whether the chosen trials lead from start back to it, by no name twice."""
    passed = []
    name = start
    for trial in chosen:
        passed.append(name)
        # Where a trial doesn't lead on this is None, and stays so.
        name = led_to(trial, name)
    return name == start and len(set(passed)) == len(passed)


def is_ring(trials, numbers):
    """Whether the trials of these numbers are a ring."""
    if not all([0 <= number < len(trials) for number in numbers]):
        return False
    chosen = [trials[number] for number in numbers]
    if not any([is_clear(trial) for trial in chosen]):
        return False
    # Where the first one is by nought, only those behind it show which way it is led along.
    return leads_round(chosen, chosen[0][0]) or leads_round(chosen, chosen[0][1])


def groups_of(names):
    """All picks of the names, each behind the smaller ones that are in it."""
    groups = [()]
    for name in names:
        groups = groups + [group + (name,) for group in groups]
    return groups


def gainsaid_by(trials, whole):
    """For each (ahead, behind) of names how much is gainsaid where they stand so, whole being the bottom of it."""
    gainsaid = {}
    for more, less, by in trials:
        gainsaid[(less, more)] = gainsaid.get((less, more), 0) + by[0] * (whole // by[1])
    return gainsaid


def best_of_group(best, gainsaid, group):
    """The least sum and the first order of it, of a group, where they are known of all smaller ones in it."""
    orders = []
    for first in group:
        least, order = best[tuple([name for name in group if name != first])]
        ahead = sum([gainsaid.get((first, name), 0) for name in order])
        orders.append((least + ahead, [first] + order))
    return min(orders)


def best_order(trials, names):
    """The least sum by which an order of the names gainsays the trials, and the first such order."""
    # All sums are of whole numbers, over one bottom that every by can have.
    whole = 1
    for more, less, by in trials:
        whole = whole * by[1]
    gainsaid = gainsaid_by(trials, whole)
    rising = sorted(names)
    best = {(): (0, [])}
    for group in groups_of(rising)[1:]:
        best[group] = best_of_group(best, gainsaid, group)
    least, order = best[tuple(rising)]
    return (fraction(least, whole), order)


def partners(pairs, names):
    """Who can be tried against one of the names."""
    return [pair[1] for pair in pairs if pair[0] in names] + [pair[0] for pair in pairs if pair[1] in names]


def fewest_between(trials, pairs, one, other):
    """How many pairs are the fewest that must be tried so that trials lead from one to other, or None."""
    reached = ways_from(trials, [one])
    many = 0
    while other not in reached:
        grown = ways_from(trials, list(reached) + partners(pairs, reached))
        if len(grown) == len(reached):
            return None
        reached = grown
        many += 1
    return many


def further(trials, pairs, one, other):
    """How many more trials of the pairs are the fewest with which one and other could be no longer open, or None."""
    # Once trials lead from the one to the other the two aren't open, whatever the trials are by; before that they are.
    both_ways = [fewest_between(trials, pairs, one, other), fewest_between(trials, pairs, other, one)]
    return min([many for many in both_ways if many is not None], default=None)
