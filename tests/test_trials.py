import unittest
from fractions import Fraction
from itertools import combinations, permutations, product
from math import gcd, lcm
from random import Random

from rowtrim.trials import best_order, further, is_ring, ring, verdict
from tests.helper import drawn_trials, plain_ring, plain_verdict

NOUGHT = (0, 1)
ONE = (1, 1)
OTHER_WAY = {"ring": "ring", "more": "less", "less": "more", "alike": "alike", "open": "open"}
WORDS = list(OTHER_WAY)
# Forty trials down a chain of forty-one names.
CHAIN = ["x" + "abcdefghij"[at // 10] + "abcdefghij"[at % 10] for at in range(41)]
FORTY = [(more, less, (1, at + 1)) for at, (more, less) in enumerate(zip(CHAIN, CHAIN[1:]))]


def trials_of(text):
    """Trials written short: a>b by one, a=b by nought."""
    return [(pair[0], pair[2], ONE if pair[1] == ">" else NOUGHT) for pair in text.split()]


def names_in(trials):
    return sorted(set(name for trial in trials for name in trial[:2]))


class Verdict(unittest.TestCase):
    def told(self, text, one, other, right):
        """The verdict is so, the other way about too, and with the trials in each other order."""
        trials = trials_of(text)
        orders = list(permutations(trials)) if len(trials) <= 4 else [trials, trials[::-1], trials[2:] + trials[:2]]
        for order in orders:
            with self.subTest(order=order):
                self.assertEqual(verdict(list(order), one, other), right)
                self.assertEqual(verdict(list(order), other, one), OTHER_WAY[right])

    def test_no_trials(self):
        self.told("", "a", "b", "open")

    def test_by_one_trial(self):
        self.told("a>b", "a", "b", "more")
        self.told("b>a", "a", "b", "less")
        self.told("a=b", "a", "b", "alike")
        self.told("b=a", "a", "b", "alike")
        self.told("a>c", "a", "b", "open")

    def test_by_how_much_changes_nothing(self):
        for by in ((1, 10 ** 39), (1, 3), (7, 2), (10 ** 39, 1)):
            self.assertEqual(verdict([("a", "b", by)], "a", "b"), "more")
            self.assertEqual(verdict([("a", "b", by), ("b", "c", (1, 7))], "a", "c"), "more")
            self.assertEqual(verdict([("a", "b", by), ("b", "a", (1, 7))], "a", "b"), "ring")

    def test_by_several_one_behind_the_other(self):
        self.told("a>b b>c", "a", "c", "more")
        self.told("c>b b>a", "a", "c", "less")
        self.told("a>b b>c c>d d>e", "a", "e", "more")
        self.told("a=b b=c", "a", "c", "alike")
        self.told("a=b b=c c=d d=e", "a", "e", "alike")
        self.told("a>b b>c c>a", "a", "c", "ring")

    def test_two_above_or_below_the_same_one_are_open(self):
        self.told("a>b c>b", "a", "c", "open")
        self.told("b>a b>c", "a", "c", "open")
        self.told("a>b c>b c>d", "a", "d", "open")
        self.told("a>b b=c d>c", "a", "d", "open")

    def test_nought_on_the_way_either_way(self):
        for nought in ("b=c", "c=b"):
            self.told(f"a>b {nought}", "a", "c", "more")
            self.told(f"b>a {nought}", "a", "c", "less")
            self.told(f"a>b {nought} c>d", "a", "d", "more")
            self.told(f"a>b {nought} d>c", "a", "d", "open")
            self.told(f"a>b {nought} c>a", "a", "c", "ring")
            self.told(f"a>b {nought} c>a", "b", "c", "ring")
        for first, second in product(("a=b", "b=a"), ("b=c", "c=b")):
            self.told(f"{first} {second}", "a", "c", "alike")
            self.told(f"{first} {second} c>d", "a", "d", "more")
            self.told(f"{first} {second} d>c", "a", "d", "less")
            self.told(f"d>a {first} {second}", "d", "c", "more")

    def test_by_more_is_no_way_up(self):
        self.told("a>b c=b c>d", "d", "b", "less")
        self.told("b>a b=c", "a", "c", "less")
        self.told("a>b a=c", "c", "b", "more")

    def test_nought_and_more_of_the_same_two(self):
        for nought in ("a=b", "b=a"):
            self.told(f"a>b {nought}", "a", "b", "ring")
            self.told(f"b>a {nought}", "a", "b", "ring")
            self.told(f"a>b {nought} b>c", "a", "c", "more")
            self.told(f"a>b {nought} b=c", "a", "c", "ring")

    def test_the_same_two_twice(self):
        self.told("a>b a>b", "a", "b", "more")
        self.told("a=b b=a", "a", "b", "alike")
        self.told("a>b b>a", "a", "b", "ring")

    def test_a_ring_aside(self):
        # The way from a to b may go round by the ring that a stands in.
        self.told("a=b a>c c>a", "a", "b", "ring")
        self.told("a=b c>d d>c", "a", "b", "alike")
        self.told("a>b b>c c>b", "a", "b", "more")
        self.told("a>b b>c c>b", "a", "c", "more")
        self.told("a>b b>a b>c c>d", "a", "d", "more")
        self.told("a>b b>a c>d", "a", "c", "open")

    def test_names_that_no_trial_has(self):
        for trials in ("a>b", "a=b", "a>b b>a"):
            self.told(trials, "a", "x", "open")
            self.told(trials, "y", "x", "open")
        self.told("a>b", "aa", "b", "open")

    def test_forty_trials(self):
        self.assertEqual(len(FORTY), 40)
        for order in (FORTY, FORTY[::-1], Random(7).sample(FORTY, 40)):
            self.assertEqual(verdict(order, CHAIN[0], CHAIN[40]), "more")
            self.assertEqual(verdict(order, CHAIN[40], CHAIN[0]), "less")
            self.assertEqual(verdict(order, CHAIN[17], CHAIN[16]), "less")
        for at in (0, 20, 39):
            broken = FORTY[:at] + [("x", "y", ONE)] + FORTY[at + 1:]
            self.assertEqual(verdict(broken, CHAIN[0], CHAIN[40]), "open")
            turned = FORTY[:at] + [(CHAIN[at + 1], CHAIN[at], NOUGHT)] + FORTY[at + 1:]
            self.assertEqual(verdict(turned, CHAIN[0], CHAIN[40]), "more")
        around = FORTY[1:] + [(CHAIN[40], CHAIN[1], NOUGHT)]
        self.assertEqual(verdict(around, CHAIN[5], CHAIN[25]), "ring")
        level = [(more, less, NOUGHT) for more, less, by in FORTY]
        self.assertEqual(verdict(level, CHAIN[0], CHAIN[40]), "alike")
        self.assertEqual(verdict(level[:39] + FORTY[39:], CHAIN[0], CHAIN[40]), "more")
        self.assertEqual(verdict(level[:39] + FORTY[39:], CHAIN[40], CHAIN[0]), "less")
        self.assertEqual(verdict(level[:39] + FORTY[39:], CHAIN[0], CHAIN[39]), "alike")

    def test_drawn(self):
        words = []
        for trials in drawn_trials(400):
            for one, other in combinations("abcdefg", 2):
                right = plain_verdict(trials, one, other)
                words.append(right)
                self.assertEqual(verdict(trials, one, other), right, trials)
                self.assertEqual(verdict(trials, other, one), OTHER_WAY[right], trials)
                self.assertEqual(verdict(trials[::-1], one, other), right, trials)
        for word in WORDS:
            self.assertGreater(words.count(word), 100, word)

    def test_all_of_three_trials_and_four_names(self):
        every = [(one, other, by) for one, other in permutations("abcd", 2) for by in (NOUGHT, ONE)]
        for trials in combinations(every, 3):
            self.assertEqual(verdict(list(trials), "a", "b"), plain_verdict(trials, "a", "b"), trials)


class Ring(unittest.TestCase):
    def round(self, text):
        trials = trials_of(text)
        with self.subTest(text):
            found = ring(trials)
            self.assertIs(type(found), list)
            self.assertIs(is_ring(trials, found), True)
            self.assertTrue(plain_ring(trials, found))
        return found

    def none(self, text):
        with self.subTest(text):
            self.assertIsNone(ring(trials_of(text)))

    def test_two_trials(self):
        self.assertEqual(sorted(self.round("a>b b>a")), [0, 1])
        for nought in ("a=b", "b=a"):
            self.assertEqual(sorted(self.round(f"a>b {nought}")), [0, 1])
            self.assertEqual(sorted(self.round(f"{nought} b>a")), [0, 1])

    def test_more_trials(self):
        self.assertEqual(sorted(self.round("a>b b>c c>a")), [0, 1, 2])
        self.assertEqual(sorted(self.round("c>d b>c d>a a>b")), [0, 1, 2, 3])
        self.assertEqual(sorted(self.round("x>a a>b b>c c>a c>y y>z")), [1, 2, 3])

    def test_nought_on_the_way_either_way(self):
        for nought in ("b=c", "c=b"):
            self.assertEqual(sorted(self.round(f"a>b {nought} c>a")), [0, 1, 2])
            self.assertEqual(sorted(self.round(f"{nought} c>d d=e e>b")), [0, 1, 2, 3])
        for first, second in product(("b=c", "c=b"), ("c=a", "a=c")):
            self.assertEqual(sorted(self.round(f"a>b {first} {second}")), [0, 1, 2])

    def test_none(self):
        for text in ("", "a>b", "a=b", "a>b a>b", "a>b b>c a>c", "a>b c>b c>d a>d", "a>b b=c d>c"):
            self.none(text)

    def test_trials_by_nought_alone(self):
        for text in ("a=b b=a", "a=b a=b", "a=b b=c c=a", "a=b b=c c=a a=c", "a=b b=c c=a a>d d>e"):
            self.none(text)

    def test_forty_trials(self):
        self.assertIsNone(ring(FORTY))
        around = FORTY[1:] + [(CHAIN[40], CHAIN[1], NOUGHT)]
        self.assertEqual(sorted(ring(around)), list(range(40)))
        self.assertIs(is_ring(around, ring(around)), True)
        level = [(more, less, NOUGHT) for more, less, by in around]
        self.assertIsNone(ring(level))

    def test_drawn(self):
        none = 0
        for trials in drawn_trials(600):
            found = ring(trials)
            # A ring has two names at least, each of them above the other one.
            around = any(plain_verdict(trials, *pair) == "ring" for pair in combinations("abcdefg", 2))
            self.assertIs(found is not None, around, trials)
            if found is None:
                none += 1
            else:
                self.assertIs(is_ring(trials, found), True, trials)
                self.assertTrue(plain_ring(trials, found), trials)
        self.assertTrue(100 < none < 500, none)


class IsRing(unittest.TestCase):
    def told(self, text, numbers, right):
        with self.subTest(text=text, numbers=numbers):
            self.assertIs(is_ring(trials_of(text), numbers), right)

    def test_no_numbers(self):
        for text in ("", "a>b", "a>b b>a", "a=b"):
            self.told(text, [], False)

    def test_one_number(self):
        for text in ("a>b", "a=b", "a>b b>a"):
            self.told(text, [0], False)

    def test_a_number_of_no_trial(self):
        self.told("", [0], False)
        for number in (-1, -2, 2, 3, 10 ** 39, -(10 ** 39)):
            self.told("a>b b>a", [number], False)
            self.told("a>b b>a", [0, number], False)
            self.told("a>b b>a", [number, 1], False)
            self.told("a>b b>a", [0, 1, number], False)

    def test_a_number_twice(self):
        self.told("a>b", [0, 0], False)
        self.told("a=b", [0, 0], False)
        self.told("a>b b>a", [0, 1, 0, 1], False)
        self.told("a>b b>a", [0, 0, 1], False)
        self.told("a>b b=c c>a", [0, 1, 1, 1, 2], False)
        self.told("a=b b>c c>a", [0, 0, 0, 1, 2], False)

    def test_a_name_twice_on_the_way(self):
        self.told("a>b b>a a>c c>a", [0, 1, 2, 3], False)
        self.told("a>b b>c c>b b>a", [0, 1, 2, 3], False)
        self.told("a>b b=c b=c b>a", [0, 1, 2, 3], False)
        self.told("a>b b>c c>d d>b", [0, 1, 2, 3], False)
        self.told("a>b b>c c>d d>b", [1, 2, 3], True)

    def test_begun_at_another(self):
        for text in ("a>b b>c c>a", "a>b c=b c>a", "a=b b=c c>a", "b=a c=b c>a", "a=b c=b d=c d>a"):
            numbers = list(range(len(text.split())))
            for at in numbers:
                self.told(text, numbers[at:] + numbers[:at], True)
                self.told(text, (numbers[at:] + numbers[:at])[::-1], False)

    def test_two(self):
        for text in ("a>b b>a", "a>b a=b", "a>b b=a", "a=b a>b", "b=a a>b"):
            self.told(text, [0, 1], True)
            self.told(text, [1, 0], True)
        for text in ("a>b a>b", "a>b b>c", "a=b b=a", "a>b c>a", "a>b c>d"):
            self.told(text, [0, 1], False)
            self.told(text, [1, 0], False)

    def test_not_back(self):
        self.told("a>b b>c c>a", [0, 1], False)
        self.told("a>b b>c c>d", [0, 1, 2], False)
        self.told("a>b b=c d>a", [0, 1, 2], False)

    def test_the_wrong_way(self):
        self.told("a>b b>c a>c", [0, 1, 2], False)
        self.told("a>b b=c a>c", [0, 1, 2], False)
        self.told("a=b b=c a>c", [0, 1, 2], False)
        self.told("a=b b=c a>c", [2, 1, 0], True)

    def test_by_nought_alone(self):
        self.told("a=b b=c c=a", [0, 1, 2], False)
        self.told("a=b b=a", [0, 1], False)

    def test_against_all_ways_of_leading(self):
        answers = []
        for trials in drawn_trials(80, names="abc", most=4) + drawn_trials(80, names="abcd", most=4):
            for many in range(5):
                for numbers in product(range(-1, len(trials) + 1), repeat=many):
                    right = plain_ring(trials, numbers)
                    answers.append(right)
                    if is_ring(trials, list(numbers)) is not right:
                        self.fail((trials, numbers, right))
        self.assertGreater(answers.count(True), 100)

    def test_long_lists(self):
        self.told("a>b b>a", [0, 1] * 500, False)
        around = FORTY[1:] + [(CHAIN[40], CHAIN[1], ONE)]
        self.assertIs(is_ring(around, list(range(40))), True)
        self.assertIs(is_ring(around, list(range(39))), False)
        self.assertIs(is_ring(around, list(range(20, 40)) + list(range(20))), True)


def plain_orders(trials, names):
    """The two first (sum, order) of all orders, the least sums first."""
    scale = lcm(*[by[1] for more, less, by in trials])
    ranked = []
    for order in permutations(sorted(names)):
        at = {name: place for place, name in enumerate(order)}
        gainsaid = 0
        for more, less, by in trials:
            if more in at and less in at and at[less] < at[more]:
                gainsaid += scale * by[0] // by[1]
        ranked.append((gainsaid, list(order)))
    return [(Fraction(gainsaid, scale), order) for gainsaid, order in sorted(ranked)[:2]]


class BestOrder(unittest.TestCase):
    def told(self, trials, names, gainsaid, order):
        turned = [list(names), list(names)[::-1], sorted(names), list(names)[1:] + list(names)[:1]]
        for handed in turned:
            for behind in (trials, trials[::-1], trials[1:] + trials[:1]):
                with self.subTest(trials=behind, names=handed):
                    self.assertEqual(best_order(list(behind), list(handed)), (gainsaid, list(order)))

    def test_one_name(self):
        self.told([], ["a"], (0, 1), ["a"])
        self.told(trials_of("a>b b>a"), ["a"], (0, 1), ["a"])
        self.told(trials_of("c>b b>c"), ["zzzzzzzz"], (0, 1), ["zzzzzzzz"])

    def test_no_trials(self):
        self.told([], "ab", (0, 1), "ab")
        self.told([], "hgfedcba", (0, 1), "abcdefgh")

    def test_two_names(self):
        self.told(trials_of("a>b"), "ab", (0, 1), "ab")
        self.told(trials_of("b>a"), "ab", (0, 1), "ba")
        self.told(trials_of("b>a a>b"), "ab", (1, 1), "ab")
        self.told([("a", "b", (1, 2)), ("b", "a", (2, 3))], "ab", (1, 2), "ba")
        self.told([("a", "b", (1, 2)), ("b", "a", (1, 3))], "ab", (1, 3), "ab")

    def test_a_ring(self):
        self.told(trials_of("a>b b>c c>a"), "abc", (1, 1), "abc")
        self.told([("a", "b", (3, 1)), ("b", "c", (1, 1)), ("c", "a", (2, 1))], "abc", (1, 1), "cab")
        self.told([("a", "b", (1, 1)), ("b", "c", (3, 1)), ("c", "a", (2, 1))], "abc", (1, 1), "bca")

    def test_eight_names(self):
        falling = trials_of("h>g g>f f>e e>d d>c c>b b>a")
        self.told(falling, "abcdefgh", (0, 1), "hgfedcba")
        self.told(falling + [("a", "h", (9, 7))], "abcdefgh", (1, 1), "ahgfedcb")
        self.told(falling + [("a", "h", (6, 7))], "abcdefgh", (6, 7), "hgfedcba")

    def test_trials_by_nought(self):
        self.told(trials_of("b=a"), "ab", (0, 1), "ab")
        self.told(trials_of("b=a a=b c=b c=a"), "abc", (0, 1), "abc")
        self.told(trials_of("b>a c=b"), "abc", (0, 1), "bac")

    def test_names_that_are_not_in_the_order(self):
        self.told(trials_of("b>a c>a"), "ab", (0, 1), "ba")
        self.told(trials_of("c>a b>c"), "ab", (0, 1), "ab")
        self.told(trials_of("y>x x>y c>x"), "abc", (0, 1), "abc")
        self.told([("b", "a", (1, 3)), ("x", "a", (1, 7)), ("b", "x", (1, 11))], "ab", (0, 1), "ba")

    def test_trials_told_twice(self):
        twice = [("b", "a", (2, 3)), ("a", "b", (1, 1)), ("b", "a", (2, 3))]
        self.told(twice, "ab", (1, 1), "ba")
        self.told(twice[:2], "ab", (2, 3), "ab")
        self.told(twice[:2] * 2, "ab", (4, 3), "ab")

    def test_the_first_of_several(self):
        self.told(trials_of("d>a"), "abcd", (0, 1), "bcda")
        self.told(trials_of("d>a c>b"), "abcd", (0, 1), "cbda")
        self.told(trials_of("c>a a>c"), "abc", (1, 1), "abc")
        self.assertEqual(best_order([], ["b", "ab", "a", "abc"]), ((0, 1), ["a", "ab", "abc", "b"]))
        self.assertEqual(best_order(trials_of("b>a"), ["b", "ab", "a"]), ((0, 1), ["ab", "b", "a"]))

    def test_the_sum_in_lowest_terms(self):
        both = [("a", "b", (1, 6)), ("b", "a", (1, 6)), ("a", "b", (1, 3)), ("b", "a", (1, 3))]
        self.told(both, "ab", (1, 2), "ab")
        self.told([("a", "b", (1, 6)), ("b", "a", (1, 6))] * 3, "ab", (1, 2), "ab")
        self.told([("a", "b", (1, 4)), ("b", "a", (1, 4))] * 4, "ab", (1, 1), "ab")
        least = [("a", "b", (1, 10 ** 18)), ("b", "a", (1, 10 ** 18 - 1))]
        self.told(least, "ab", (1, 10 ** 18), "ba")

    def test_kinds(self):
        told = best_order(trials_of("a>b b>a"), ["b", "a"])
        self.assertEqual([type(part) for part in (told,) + told + told[0]], [tuple, tuple, list, int, int])

    def test_forty_trials(self):
        draw = Random(40)
        for turn in range(3):
            trials = [tuple(draw.sample("abcdefgh", 2)) + ((draw.randint(1, 9), 10),) for at in range(40)]
            trials = [(more, less, Fraction(*by).as_integer_ratio()) for more, less, by in trials]
            least, order = plain_orders(trials, "abcdefgh")[0]
            self.assertEqual(best_order(trials, list("hgfedcba")), (least.as_integer_ratio(), order))

    def test_drawn(self):
        several = gainsaid = 0
        for seed, trials in enumerate(drawn_trials(300, names="abcde", most=14)):
            names = Random(seed).sample("abcdef", 1 + seed % 6)
            right = plain_orders(trials, names)
            told = best_order(trials, names)
            self.assertEqual(told, (right[0][0].as_integer_ratio(), right[0][1]), (trials, names))
            self.assertEqual(gcd(*told[0]), 1)
            several += len(right) > 1 and right[0][0] == right[1][0]
            gainsaid += right[0][0] > 0
        self.assertGreater(several, 50)
        self.assertGreater(gainsaid, 30)


def plain_further(trials, pairs, one, other):
    """The fewest, from all sets of pairs and all that may come of them."""
    if plain_verdict(trials, one, other) != "open":
        return 0
    for many in range(1, len(pairs) + 1):
        for chosen in combinations(pairs, many):
            for outcome in product((0, 1, 2), repeat=many):
                more = []
                for pair, how in zip(chosen, outcome):
                    more.append((pair[0], pair[1], NOUGHT) if how == 0 else tuple(pair[::3 - 2 * how]) + (ONE,))
                if plain_verdict(trials + more, one, other) != "open":
                    return many
    return None


class Further(unittest.TestCase):
    def told(self, text, pairs, one, other, right):
        """So it is, either way about, whichever way the pairs are told, and told twice."""
        trials = trials_of(text)
        pairs = [tuple(pair) for pair in pairs.split()]
        turned = [(second, first) for first, second in pairs]
        for handed in (pairs, turned, pairs + turned, pairs + pairs, pairs[::-1], pairs[:1] + turned[1:]):
            for behind in (trials, trials[::-1]):
                with self.subTest(trials=behind, pairs=handed, one=one, other=other):
                    self.assertEqual(further(list(behind), list(handed), one, other), right)
                    self.assertEqual(further(list(behind), list(handed), other, one), right)

    def test_not_open(self):
        for text in ("a>b", "b>a", "a=b", "a>b b>a", "a>c c>b", "a=c c=b", "b>c c=a"):
            self.told(text, "", "a", "b", 0)
            self.told(text, "ab ac", "a", "b", 0)
        self.assertIs(type(further([("a", "b", ONE)], [], "a", "b")), int)

    def test_one(self):
        self.told("", "ab", "a", "b", 1)
        self.told("", "ac cb ab", "a", "b", 1)
        self.told("a>c", "cb", "a", "b", 1)
        self.told("c>a", "cb", "a", "b", 1)
        self.told("a=c", "cb", "a", "b", 1)

    def test_two_and_more(self):
        self.told("", "ac cb", "a", "b", 2)
        self.told("", "ac cd db", "a", "b", 3)
        self.told("", "ac cd de ef fg gb", "a", "b", 6)
        self.told("", "ac cd db ae eb", "a", "b", 2)

    def test_none(self):
        self.told("", "", "a", "b", None)
        self.told("", "ac", "a", "b", None)
        self.told("", "ac bd", "a", "b", None)
        self.told("a>c b>d", "ac bd", "a", "b", None)
        self.told("a>c b>c", "ac", "x", "y", None)
        self.told("a>c b>c", "", "a", "b", None)

    def test_trials_that_stand_are_used_as_they_lead(self):
        self.told("a>c d>b", "cd", "a", "b", 1)
        self.told("c>a b>d", "cd", "a", "b", 1)
        self.told("a=c d=b", "cd", "a", "b", 1)
        # The one leads down from a, the other down from b: no trial of c and d makes a way through both.
        self.told("a>c b>d", "cd", "a", "b", None)
        self.told("c>a d>b", "cd", "a", "b", None)
        self.told("a>c b>d", "cd ac", "a", "b", 2)
        self.told("a>c b>d", "cd bd", "a", "b", 2)
        self.told("a>c b>c", "bc", "a", "b", 1)
        self.told("c>a c>b", "bc", "a", "b", 1)
        self.told("a>c d>c d>e b>e", "cd be", "a", "b", 2)
        self.told("a>c d>c d>b", "cd", "a", "b", 1)
        self.told("a>c d>c b>d", "cd", "a", "b", None)
        self.told("a>c d>c b>d", "cd bd", "a", "b", 2)

    def test_a_pair_that_was_tried_already(self):
        self.told("c>b d>c", "ad bc", "a", "b", 1)
        self.told("b>c d>c", "ad bc cd", "a", "b", 2)
        self.told("b>c c>d", "ad", "a", "b", 1)

    def test_long(self):
        pairs = list(zip(CHAIN, CHAIN[1:]))
        self.assertEqual(further([], pairs, CHAIN[0], CHAIN[40]), 40)
        self.assertEqual(further(FORTY, pairs, CHAIN[0], CHAIN[40]), 0)
        self.assertEqual(further(FORTY[:13] + FORTY[15:], pairs, CHAIN[0], CHAIN[40]), 2)
        turned = [(less, more, by) for more, less, by in FORTY]
        self.assertEqual(further(FORTY[:20] + turned[20:], pairs, CHAIN[0], CHAIN[40]), 20)
        self.assertEqual(further(FORTY[:20] + turned[20:], pairs[:39], CHAIN[0], CHAIN[40]), 20)
        self.assertIsNone(further(FORTY[:20] + turned[20:], pairs[1:39], CHAIN[0], CHAIN[40]))

    def test_drawn(self):
        answers = []
        for seed in range(900):
            draw = Random(seed)
            names = "abcdef"[:draw.choice([4, 5, 6])]
            trials = drawn_trials(1, names=names, most=4, seed=seed)[0]
            pairs = [tuple(draw.sample(names, 2)) for at in range(draw.randint(0, 4))]
            right = plain_further(trials, pairs, "a", "b")
            answers.append(right)
            self.assertEqual(further(trials, pairs, "a", "b"), right, (trials, pairs))
            self.assertEqual(further(trials, pairs, "b", "a"), right, (trials, pairs))
        for right in (0, 1, 2, 3, None):
            self.assertGreater(answers.count(right), 4, right)


if __name__ == "__main__":
    unittest.main()
