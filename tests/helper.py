"""What several test files share."""

from itertools import permutations, product
from random import Random

FOUR = ("port", "starboard", "port", "starboard")
PAIR = ("port", "starboard")
EIGHT = ("port", "starboard") * 4

# Things of any kind, nested as deep as the document lets them be.
THINGS = [
    None, True, False, 0, 1, -1, 2, 8, 10 ** 6, 10 ** 39, -(10 ** 39),
    "", " ", "a", "port", "starboard", "both", "a\n", "\n", "~", "x" * 2000,
    [], (), [[]], ((),), [()], ([],), [None], (None,), [1, 2], (1, 2), ["a"], ("a",),
    (True, False), ("port", True), ("a", "port", 1), ["a", "port", 1], [("a", "port", 1)], (("a", "port", 1),),
    PAIR, list(PAIR), FOUR, [PAIR], (PAIR,), ["port", ["starboard"]], ("port", ["starboard"]),
    [[[[[[1]]]]]], ((((((None,),),),),),), [([([("a",)],)],)],
]


def plain_trim(rowers, rig, seating):
    """The trim, from the words of the document alone."""
    weights = dict((name, weight) for name, sides, weight in rowers)
    arms = {2: (-1, 1), 4: (-3, -1, 1, 3), 6: (-5, -3, -1, 1, 3, 5), 8: (-7, -5, -3, -1, 1, 3, 5, 7)}[len(rig)]
    return sum(weights[name] * arm for name, arm in zip(seating, arms))


def plain_seatings(rowers, rig):
    """All seatings, found in another way than the program finds them."""
    rows = dict((name, sides) for name, sides, weight in rowers)
    orders = permutations(sorted(rows), len(rig))
    return [order for order in orders if all(rows[name] in ("both", side) for name, side in zip(order, rig))]


def every_rig(many):
    return [sides for sides in product(PAIR, repeat=many) if sides.count("port") * 2 == many]


def drawn_rowers(seed, many, heaviest):
    """Rowers that are the same each time for one seed."""
    draw = Random(seed)
    names = draw.sample(["a", "ab", "abc", "b", "ba", "c", "z", "zz", "zzzzzzzz"], many)
    sides = ["port", "starboard", "both", "both"]
    return [(name, draw.choice(sides), draw.randint(1, heaviest)) for name in names]


def drawn_cases():
    """Rowers and rigs, small enough for all their seatings to be tried by the tests."""
    cases = []
    for seed in range(360):
        draw = Random(1000 + seed)
        rig = draw.choice(every_rig(draw.choice([2, 4, 4, 6])))
        rowers = drawn_rowers(seed, draw.randint(1, 7), draw.choice([3, 9, 120, 10 ** 6]))
        cases.append((rowers, rig))
    return cases
