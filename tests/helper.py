"""What several test files share."""

from itertools import permutations, product
from random import Random

FOUR = ("port", "starboard", "port", "starboard")
PAIR = ("port", "starboard")
EIGHT = ("port", "starboard") * 4

# Things of any kind, nested as deep as the document lets them be.
THINGS = [
    None, True, False, 0, 1, -1, 2, 8, 10 ** 6, 10 ** 39, -(10 ** 39),
    "", " ", "a", "port", "starboard", "both", "a\n", "\n", "~", "x" * 2000,
    [], (), [[]], ((),), [()], ([],), [None], (None,), [1, 2], (1, 2), ["a"], ("a",),
    (True, False), ("port", True), ("a", "port", 1), ["a", "port", 1], [("a", "port", 1)], (("a", "port", 1),),
    PAIR, list(PAIR), FOUR, [PAIR], (PAIR,), ["port", ["starboard"]], ("port", ["starboard"]),
    [[[[[[1]]]]]], ((((((None,),),),),),), [([([("a",)],)],)],
]


def plain_trim(rowers, rig, seating):
    """The trim, from the words of the document alone."""
    weights = dict((name, weight) for name, sides, weight in rowers)
    arms = {2: (-1, 1), 4: (-3, -1, 1, 3), 6: (-5, -3, -1, 1, 3, 5), 8: (-7, -5, -3, -1, 1, 3, 5, 7)}[len(rig)]
    return sum(weights[name] * arm for name, arm in zip(seating, arms))


def plain_seatings(rowers, rig):
    """All seatings, found in another way than the program finds them."""
    rows = dict((name, sides) for name, sides, weight in rowers)
    orders = permutations(sorted(rows), len(rig))
    return [order for order in orders if all(rows[name] in ("both", side) for name, side in zip(order, rig))]


def every_rig(many):
    return [sides for sides in product(PAIR, repeat=many) if sides.count("port") * 2 == many]


def drawn_rowers(seed, many, heaviest):
    """Rowers that are the same each time for one seed."""
    draw = Random(seed)
    names = draw.sample(["a", "ab", "abc", "b", "ba", "c", "z", "zz", "zzzzzzzz"], many)
    sides = ["port", "starboard", "both", "both"]
    return [(name, draw.choice(sides), draw.randint(1, heaviest)) for name in names]


def drawn_cases():
    """Rowers and rigs, small enough for all their seatings to be tried by the tests."""
    cases = []
    for seed in range(360):
        draw = Random(1000 + seed)
        rig = draw.choice(every_rig(draw.choice([2, 4, 4, 6])))
        rowers = drawn_rowers(seed, draw.randint(1, 7), draw.choice([3, 9, 120, 10 ** 6]))
        cases.append((rowers, rig))
    return cases


def drawn_trials(many, names="abcdefg", most=9, seed=0):
    """Lists of trials, the same each time, with about as many by nought as by more."""
    drawn = []
    for turn in range(many):
        draw = Random(seed * 1000 + turn)
        bys = draw.choice([[(0, 1), (1, 1)], [(0, 1), (0, 1), (1, 3), (5, 2)], [(1, 2), (2, 3), (1, 6), (3, 1)]])
        trials = [tuple(draw.sample(names, 2)) + (draw.choice(bys),) for at in range(draw.randint(0, most))]
        drawn.append(trials)
    return drawn


def plain_verdict(trials, one, other):
    """What trials tell of two names, from all pairs that are joined until no pair more can be."""
    level = set()
    above = set()
    for more, less, by in trials:
        if by == (0, 1):
            level |= {(more, less), (less, more)}
        else:
            above.add((more, less))
    while True:
        # A pair (p, q) and one (q, r) make one (p, r), which is level where both are, and else above.
        levels = {(p, r) for p, q in level for middle, r in level if q == middle}
        mixed = {(p, r) for p, q in above for middle, r in above | level if q == middle}
        mixed |= {(p, r) for p, q in level for middle, r in above if q == middle}
        if levels <= level and mixed <= above:
            break
        level |= levels
        above |= mixed
    up, down = (one, other) in above, (other, one) in above
    if up or down:
        return "ring" if up and down else "more" if up else "less"
    return "alike" if (one, other) in level else "open"


def plain_ring(trials, numbers):
    """Whether the numbers are a ring, from all ways in which their trials could be led along."""
    if not all(number in range(len(trials)) for number in numbers):
        return False
    chosen = [trials[number] for number in numbers]
    if all(by == (0, 1) for more, less, by in chosen):
        return False
    choices = [[(more, less)] + [(less, more)] * (by == (0, 1)) for more, less, by in chosen]
    for steps in product(*choices):
        starts = [start for start, end in steps]
        ends = [end for start, end in steps]
        if starts[1:] + starts[:1] == ends and len(set(starts)) == len(starts):
            return True
    return False
