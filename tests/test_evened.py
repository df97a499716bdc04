import unittest
from itertools import permutations, product

from rowtrim.errors import NoCrew, RowError
from rowtrim.evened import evened
from tests.helper import drawn_rowers

NAMES = "abcdefgh"


def crew_of(*weights):
    """Rowers a, b, c .. of these weights."""
    return [(name, "both", weight) for name, weight in zip(NAMES, weights)]


def plain_partings(rowers):
    """All (difference, crew), rising, from all ways to put each rower in one of two boats."""
    ranked = set()
    for boats in product((0, 1), repeat=len(rowers)):
        if sum(boats) * 2 == len(rowers):
            crews = ([], [])
            weights = [0, 0]
            for boat, (name, sides, weight) in zip(boats, rowers):
                crews[boat].append(name)
                weights[boat] += weight
            first = min(crews, key=min)
            ranked.add((max(weights) - min(weights), tuple(sorted(first))))
    return sorted(ranked)


def drawn_crews():
    """Rowers, an even number of them; the lighter the more often several partings are as even."""
    return [
        drawn_rowers(seed, many, heaviest)
        for many in (2, 4, 6, 8) for heaviest in (1, 2, 4, 12, 120, 10 ** 6) for seed in range(12)
    ]


class Evened(unittest.TestCase):
    def test_two(self):
        self.assertEqual(evened(crew_of(70, 80)), (10, ("a",)))
        self.assertEqual(evened(crew_of(80, 70)), (10, ("a",)))
        self.assertEqual(evened(crew_of(70, 70)), (0, ("a",)))

    def test_four(self):
        self.assertEqual(evened(crew_of(1, 2, 3, 4)), (0, ("a", "d")))
        self.assertEqual(evened(crew_of(1, 4, 3, 2)), (0, ("a", "b")))
        self.assertEqual(evened(crew_of(1, 2, 4, 8)), (3, ("a", "d")))
        self.assertEqual(evened(crew_of(70, 81, 60, 75)), (4, ("a", "d")))

    def test_six(self):
        self.assertEqual(evened(crew_of(1, 2, 4, 8, 16, 32)), (7, ("a", "b", "f")))
        self.assertEqual(evened(crew_of(5, 5, 5, 6, 6, 9)), (2, ("a", "b", "f")))

    def test_eight(self):
        self.assertEqual(evened(crew_of(1, 2, 4, 8, 16, 32, 64, 128)), (15, ("a", "b", "c", "h")))
        self.assertEqual(evened(crew_of(1, 2, 3, 4, 5, 6, 7, 8)), (0, ("a", "b", "g", "h")))

    def test_an_odd_number(self):
        for many in (1, 3, 5, 7):
            for weights in ((9,) * many, range(1, many + 1)):
                with self.subTest(many=many), self.assertRaises(NoCrew) as caught:
                    evened(crew_of(*weights))
                self.assertIsInstance(caught.exception, RowError)

    def test_weights_all_alike(self):
        for weight in (1, 77, 10 ** 6):
            for many in (2, 4, 6, 8):
                self.assertEqual(evened(crew_of(*[weight] * many)), (0, tuple(NAMES[:many // 2])))

    def test_weights_far_apart(self):
        self.assertEqual(evened(crew_of(1, 10 ** 6)), (999999, ("a",)))
        self.assertEqual(evened(crew_of(10 ** 6, 1)), (999999, ("a",)))
        self.assertEqual(evened(crew_of(1, 10 ** 6, 1, 1)), (999999, ("a", "b")))
        self.assertEqual(evened(crew_of(10 ** 6, 10 ** 6, 1, 1)), (0, ("a", "c")))
        self.assertEqual(evened(crew_of(10 ** 6, 10 ** 6, 10 ** 6, 1)), (999999, ("a", "b")))
        self.assertEqual(evened(crew_of(1, 1, 1, 1, 10 ** 6, 1, 1, 10 ** 6)), (0, ("a", "b", "c", "e")))
        self.assertEqual(
            evened(crew_of(1, 10, 100, 1000, 10 ** 4, 10 ** 5, 10 ** 6, 2)), (888913, ("a", "b", "g", "h"))
        )

    def test_as_many_in_each_though_others_would_be_evener(self):
        self.assertEqual(evened(crew_of(30, 10, 10, 10)), (20, ("a", "b")))
        self.assertEqual(evened(crew_of(10, 10, 10, 10, 10, 50)), (40, ("a", "b", "c")))

    def test_the_first_of_several_partings(self):
        self.assertEqual(evened(crew_of(1, 1, 2, 2)), (0, ("a", "c")))
        self.assertEqual(evened(crew_of(1, 2, 2, 1)), (0, ("a", "b")))
        # Once the crew of a is the heavier one in the first of two, once it is the lighter one.
        self.assertEqual(evened(crew_of(10, 3, 1, 10)), (2, ("a", "b")))
        self.assertEqual(evened(crew_of(10, 1, 3, 10)), (2, ("a", "b")))

    def test_the_crew_with_the_first_name_is_told_heavy_or_light(self):
        self.assertEqual(evened(crew_of(9, 1, 1, 1)), (8, ("a", "b")))
        self.assertEqual(evened(crew_of(1, 9, 9, 9)), (8, ("a", "b")))

    def test_names_are_compared_as_texts(self):
        crew = [("b", "port", 5), ("ab", "port", 5), ("aab", "port", 5), ("aa", "port", 5)]
        self.assertEqual(evened(crew), (0, ("aa", "aab")))
        crew = [("zzzzzzzz", "port", 1), ("z", "port", 2), ("zz", "port", 3), ("y", "port", 4)]
        self.assertEqual(evened(crew), (0, ("y", "zzzzzzzz")))

    def test_the_first_name_of_all_wherever_it_stands(self):
        for crew in permutations([("a", "port", 1), ("b", "both", 2), ("c", "port", 3), ("d", "starboard", 4)]):
            self.assertEqual(evened(list(crew)), (0, ("a", "d")))

    def test_the_order_changes_nothing(self):
        for crew in drawn_crews():
            told = evened(crew)
            for other in (crew[::-1], sorted(crew), crew[1:] + crew[:1], sorted(crew, key=lambda rower: rower[2])):
                self.assertEqual(evened(other), told)

    def test_the_sides_change_nothing(self):
        for crew in drawn_crews():
            told = evened(crew)
            for sides in ("port", "starboard", "both"):
                self.assertEqual(evened([(name, sides, weight) for name, before, weight in crew]), told)

    def test_no_two_crews_of_all_are_evener(self):
        several = 0
        for crew in drawn_crews():
            right = plain_partings(crew)
            self.assertEqual(evened(crew), right[0])
            several += len(right) > 1 and right[0][0] == right[1][0]
        self.assertGreater(several, 50)

    def test_kinds(self):
        difference, names = told = evened(crew_of(3, 1, 4, 1))
        self.assertEqual([type(part) for part in (told, difference, names)], [tuple, int, tuple])


if __name__ == "__main__":
    unittest.main()
