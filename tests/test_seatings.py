import unittest

from rowtrim.errors import TooMany
from rowtrim.rowers import is_seating
from rowtrim.seatings import how_many, reseated, seated, seatings
from tests.helper import EIGHT, FOUR, PAIR, drawn_cases, every_rig, plain_seatings, plain_trim

CREW = [("dee", "port", 75), ("ann", "port", 70), ("eve", "both", 50), ("bob", "starboard", 80), ("cy", "both", 60)]
BOTH = [(name, "both", 10) for name in "abcdefgh"]
# These have just as many seatings in a four as are told, and one more side makes them too many.
JUST = [("y", "starboard", 1), ("x", "starboard", 2)] + BOTH[:5]
OVER = [("y", "port", 1), ("x", "starboard", 2)] + BOTH[:5]


class HowMany(unittest.TestCase):
    def test_none(self):
        self.assertEqual(how_many([("a", "both", 1)], PAIR), 0)
        self.assertEqual(how_many([("a", "port", 1), ("b", "port", 1)], PAIR), 0)
        self.assertEqual(how_many(BOTH[:7], EIGHT), 0)

    def test_few(self):
        self.assertEqual(how_many([("a", "port", 1), ("b", "starboard", 1)], PAIR), 1)
        self.assertEqual(how_many(BOTH[:2], PAIR), 2)
        self.assertEqual(how_many([("a", "port", 1), ("b", "both", 1)], PAIR), 1)
        self.assertEqual(how_many(BOTH[:4], FOUR), 24)

    def test_more_rowers_than_seats(self):
        self.assertEqual(how_many(BOTH[:3], PAIR), 6)
        self.assertEqual(how_many(BOTH, PAIR), 56)
        self.assertEqual(how_many(BOTH, FOUR), 1680)
        self.assertEqual(how_many([("a", "port", 1)] + BOTH[1:3], PAIR), 4)

    def test_many(self):
        self.assertEqual(how_many(BOTH, EIGHT), 40320)
        self.assertEqual(how_many(JUST, FOUR), 400)
        self.assertEqual(how_many(OVER, FOUR), 440)

    def test_drawn(self):
        for rowers, rig in drawn_cases():
            self.assertEqual(how_many(rowers, rig), len(plain_seatings(rowers, rig)))


class Seatings(unittest.TestCase):
    def test_by_hand(self):
        self.assertEqual(seatings([("b", "starboard", 1), ("a", "port", 2)], PAIR), [("a", "b")])
        self.assertEqual(seatings([("a", "port", 1)], PAIR), [])
        crew = [("cy", "both", 1), ("bob", "starboard", 1), ("ann", "both", 1)]
        self.assertEqual(seatings(crew, PAIR), [("ann", "bob"), ("ann", "cy"), ("cy", "ann"), ("cy", "bob")])
        self.assertEqual(
            seatings(crew, ("starboard", "port")), [("ann", "cy"), ("bob", "ann"), ("bob", "cy"), ("cy", "ann")]
        )

    def test_rising_as_tuples(self):
        crew = [("ab", "both", 1), ("b", "both", 1), ("a", "both", 1)]
        told = [("a", "ab"), ("a", "b"), ("ab", "a"), ("ab", "b"), ("b", "a"), ("b", "ab")]
        self.assertEqual(seatings(crew, PAIR), told)

    def test_a_list_of_tuples(self):
        told = seatings(CREW, FOUR)
        self.assertIs(type(told), list)
        for seating in told:
            self.assertIs(type(seating), tuple)
            self.assertIs(is_seating(CREW, FOUR, seating), True)

    def test_just_as_many_as_are_told(self):
        told = seatings(JUST, FOUR)
        self.assertEqual(len(told), 400)
        self.assertEqual(told, plain_seatings(JUST, FOUR))

    def test_too_many(self):
        for rowers, rig, many in ((OVER, FOUR, 440), (BOTH, FOUR, 1680), (BOTH, EIGHT, 40320)):
            with self.assertRaises(TooMany) as caught:
                seatings(rowers, rig)
            self.assertEqual(caught.exception.many, many)

    def test_drawn(self):
        for rowers, rig in drawn_cases():
            right = plain_seatings(rowers, rig)
            if len(right) <= 400:
                self.assertEqual(seatings(rowers, rig), right)
            else:
                with self.assertRaises(TooMany) as caught:
                    seatings(rowers, rig)
                self.assertEqual(caught.exception.many, len(right))


class Seated(unittest.TestCase):
    def test_a_seating(self):
        crew = [("b", "starboard", 80), ("a", "port", 70)]
        self.assertEqual(seated(crew, PAIR, 10), ("seating", ("a", "b"), 10))
        self.assertEqual(seated(crew, ("starboard", "port"), 10), ("seating", ("b", "a"), -10))

    def test_just_met_and_one_less(self):
        crew = [("b", "starboard", 80), ("a", "port", 70)]
        for rig, seating in ((PAIR, ("a", "b")), (("starboard", "port"), ("b", "a"))):
            self.assertEqual(seated(crew, rig, 10)[0], "seating")
            self.assertEqual(seated(crew, rig, 11)[0], "seating")
            self.assertEqual(seated(crew, rig, 9), ("trim", 10, seating))

    def test_the_trim_left_out(self):
        crew = [("b", "starboard", 71), ("a", "port", 70)]
        self.assertEqual(seated(crew, PAIR), ("trim", 1, ("a", "b")))
        self.assertEqual(seated(BOTH[:2], PAIR), ("seating", ("a", "b"), 0))
        self.assertEqual(seated(CREW, FOUR), seated(CREW, FOUR, 0))

    def test_the_first_within_not_the_best(self):
        crew = [("a", "both", 10), ("b", "both", 15), ("c", "both", 10)]
        self.assertEqual(seated(crew, PAIR, 5), ("seating", ("a", "b"), 5))
        self.assertEqual(seated(crew, PAIR, 4), ("seating", ("a", "c"), 0))

    def test_the_first_of_the_least_trim(self):
        crew = [("c", "both", 13), ("b", "both", 11), ("a", "both", 10)]
        self.assertEqual(seated(crew, PAIR), ("trim", 1, ("a", "b")))
        crew = [("c", "both", 11), ("b", "both", 12), ("a", "both", 20)]
        self.assertEqual(seated(crew, PAIR), ("trim", 1, ("b", "c")))
        crew = [("b", "both", 10), ("a", "both", 12)]
        self.assertEqual(seated(crew, PAIR, 1), ("trim", 2, ("a", "b")))

    def test_the_seats_that_too_few_can_row(self):
        self.assertEqual(seated([("a", "starboard", 1)], PAIR), ("seats", "port", 1, 0))
        self.assertEqual(seated([("a", "port", 1)], PAIR), ("seats", "starboard", 1, 0))
        self.assertEqual(seated([("a", "both", 1)], PAIR), ("seats", "both", 2, 1))
        crew = [("a", "port", 1), ("b", "both", 1), ("c", "starboard", 1)]
        self.assertEqual(seated(crew, FOUR, 10 ** 9), ("seats", "both", 4, 3))
        self.assertEqual(seated(BOTH[:7], EIGHT), ("seats", "both", 8, 7))
        crew = [("a", "starboard", 1), ("b", "both", 1), ("c", "starboard", 1), ("d", "starboard", 1)]
        self.assertEqual(seated(crew, FOUR), ("seats", "port", 2, 1))

    def test_the_first_side_that_is_short(self):
        self.assertEqual(seated([("a", "both", 1)], FOUR), ("seats", "port", 2, 1))
        self.assertEqual(seated([("a", "port", 1), ("b", "both", 1)], FOUR), ("seats", "starboard", 2, 1))
        self.assertEqual(seated([("a", "starboard", 1), ("b", "both", 1)], FOUR), ("seats", "port", 2, 1))

    def test_of_eight(self):
        crew = [(name, "both", 10 ** at) for at, name in enumerate("abcdefg")] + [("h", "both", 3)]
        right = plain_seatings(crew, EIGHT)
        least = min(abs(plain_trim(crew, EIGHT, seating)) for seating in right)
        first = [seating for seating in right if abs(plain_trim(crew, EIGHT, seating)) == least][0]
        self.assertEqual(seated(crew, EIGHT, least - 1), ("trim", least, first))
        self.assertEqual(seated(crew, EIGHT, least), ("seating", first, plain_trim(crew, EIGHT, first)))

    def test_the_order_of_the_rowers_changes_nothing(self):
        for rowers, rig in drawn_cases()[:80]:
            for most in (0, 3, 200):
                told = seated(rowers, rig, most)
                self.assertEqual(seated(rowers[::-1], rig, most), told)
                self.assertEqual(seated(sorted(rowers), rig, most), told)
                self.assertEqual(seated(rowers[1:] + rowers[:1], rig, most), told)

    def test_drawn(self):
        kinds = []
        for rowers, rig in drawn_cases():
            weighed = [(seating, plain_trim(rowers, rig, seating)) for seating in plain_seatings(rowers, rig)]
            trims = sorted(set(abs(trim) for seating, trim in weighed))
            least = trims[0] if trims else 0
            for most in (0, max(least - 1, 0), least, least + 1, trims[-1] if trims else 5):
                told = seated(rowers, rig, most)
                kinds.append(told[0])
                within = [pair for pair in weighed if -most <= pair[1] <= most]
                if within:
                    self.assertEqual(told, ("seating",) + within[0])
                elif weighed:
                    first = [seating for seating, trim in weighed if abs(trim) == least][0]
                    self.assertEqual(told, ("trim", least, first))
                else:
                    self.assertEqual(told, plain_shortage(rowers, rig))
        for kind in ("seating", "trim", "seats"):
            self.assertGreater(kinds.count(kind), 50)


class Reseated(unittest.TestCase):
    def test_nobody_absent(self):
        self.assertEqual(reseated(CREW, PAIR, ("cy", "bob"), []), (0, ("cy", "bob")))
        # Another seating would be trimmed better, but it would move some.
        self.assertEqual(reseated(CREW, PAIR, ("dee", "eve"), []), (0, ("dee", "eve")))

    def test_absent_who_sit_nowhere(self):
        self.assertEqual(reseated(CREW, PAIR, ("dee", "eve"), ["ann", "bob", "cy"]), (0, ("dee", "eve")))

    def test_absent_who_are_no_rowers(self):
        self.assertEqual(reseated(CREW, PAIR, ("dee", "eve"), ["zoe", "x"]), (0, ("dee", "eve")))
        self.assertEqual(reseated(CREW, PAIR, ("dee", "eve"), ["zoe", "eve"]), (1, ("dee", "bob")))

    def test_one_absent(self):
        self.assertEqual(reseated(CREW, PAIR, ("ann", "bob"), ["bob"]), (1, ("ann", "cy")))
        self.assertEqual(reseated(CREW, FOUR, ("ann", "bob", "dee", "cy"), ["cy"]), (1, ("ann", "bob", "dee", "eve")))

    def test_one_absent_moves_another(self):
        crew = [("a", "port", 9), ("b", "both", 9), ("c", "starboard", 9)]
        self.assertEqual(reseated(crew, PAIR, ("b", "c"), ["c"]), (2, ("a", "b")))

    def test_several_absent(self):
        seating = ("ann", "bob", "dee", "cy")
        crew = CREW + [("fay", "both", 65), ("gus", "starboard", 90)]
        # The two who stay keep their seats; of -3 * x - y + 75 + 3 * 60 the nearest to 0 is -3 * 65 - 50 + 255.
        self.assertEqual(reseated(crew, FOUR, seating, ["bob", "ann"]), (2, ("fay", "eve", "dee", "cy")))
        self.assertEqual(reseated(crew, FOUR, seating, ["ann", "bob"]), (2, ("fay", "eve", "dee", "cy")))

    def test_the_least_trim_with_as_few_moved(self):
        crew = [("a", "port", 50), ("b", "both", 50), ("c", "both", 70), ("d", "both", 49), ("e", "both", 51)]
        self.assertEqual(reseated(crew, PAIR, ("a", "b"), ["b"]), (1, ("a", "d")))
        crew = [("a", "port", 50), ("b", "both", 50), ("c", "both", 70), ("d", "both", 31), ("e", "both", 69)]
        self.assertEqual(reseated(crew, PAIR, ("a", "b"), ["b"]), (1, ("a", "d")))
        crew = [("a", "port", 50), ("b", "both", 50), ("c", "both", 31), ("d", "both", 67), ("e", "both", 69)]
        self.assertEqual(reseated(crew, PAIR, ("a", "b"), ["b"]), (1, ("a", "d")))

    def test_the_first_with_the_least_trim(self):
        crew = [("a", "port", 50), ("b", "both", 50), ("e", "both", 57), ("d", "both", 43), ("c", "both", 90)]
        self.assertEqual(reseated(crew, PAIR, ("a", "b"), ["b"]), (1, ("a", "d")))
        crew = [("a", "port", 50), ("b", "both", 50), ("e", "both", 43), ("d", "both", 57), ("c", "both", 90)]
        self.assertEqual(reseated(crew, PAIR, ("a", "b"), ["b"]), (1, ("a", "d")))

    def test_no_seating_of_the_others(self):
        crew = [("a", "port", 1), ("b", "both", 1), ("c", "starboard", 1)]
        self.assertEqual(reseated(crew, PAIR, ("a", "c"), ["a", "b"]), ("seats", "port", 1, 0))
        self.assertEqual(reseated(crew, PAIR, ("a", "c"), ["b", "c"]), ("seats", "starboard", 1, 0))
        self.assertEqual(reseated(crew, PAIR, ("a", "c"), ["a", "c"]), ("seats", "both", 2, 1))

    def test_all_absent(self):
        self.assertEqual(reseated(BOTH[:2], PAIR, ("a", "b"), ["a", "b"]), ("seats", "port", 1, 0))
        names = [name for name, sides, weight in CREW]
        self.assertEqual(reseated(CREW, FOUR, ("ann", "bob", "dee", "cy"), names), ("seats", "port", 2, 0))

    def test_drawn(self):
        kinds = []
        for at, (rowers, rig) in enumerate(drawn_cases()):
            right = plain_seatings(rowers, rig)
            if not right:
                continue
            seating = right[at * 7 % len(right)]
            names = [name for name, sides, weight in rowers]
            sitting = list(seating)
            for absent in ([], ["nobody"], sitting[:1], sitting[-1:] + ["nobody"], sitting[:2], sitting[1:], names):
                told = reseated(rowers, rig, seating, absent)
                kinds.append(told[0] if told[0] == "seats" else min(told[0], 3))
                self.assertEqual(told, plain_reseated(rowers, rig, seating, absent))
        for kind in ("seats", 0, 1, 2, 3):
            self.assertGreater(kinds.count(kind), 10)


def plain_shortage(rowers, rig):
    port = [1 for name, sides, weight in rowers if sides != "starboard"]
    starboard = [1 for name, sides, weight in rowers if sides != "port"]
    half = len(rig) // 2
    if half > len(port):
        return ("seats", "port", half, len(port))
    if half > len(starboard):
        return ("seats", "starboard", half, len(starboard))
    assert len(rig) > len(rowers)
    return ("seats", "both", len(rig), len(rowers))


def plain_reseated(rowers, rig, seating, absent):
    others = [rower for rower in rowers if rower[0] not in absent]
    ranked = []
    for other in plain_seatings(others, rig):
        moved = sum(name != before for name, before in zip(other, seating))
        ranked.append((moved, abs(plain_trim(others, rig, other)), other))
    if not ranked:
        return plain_shortage(others, rig)
    moved, trim, other = sorted(ranked)[0]
    return (moved, other)


class Whole(unittest.TestCase):
    def test_there_is_a_seating_or_seats_fall_short(self):
        """Of every make-up of a crew by sides, in every rig up to six seats."""
        for rig in every_rig(2) + every_rig(4) + every_rig(6)[::5]:
            for port in range(4):
                for starboard in range(4):
                    for both in range(0, 7 - port - starboard):
                        crew = [(f"p{'abcd'[at]}", "port", 5 + at) for at in range(port)]
                        crew += [(f"s{'abcd'[at]}", "starboard", 9 - at) for at in range(starboard)]
                        crew += [("b" + "abcdefg"[at], "both", 7) for at in range(both)]
                        if crew:
                            told = seated(crew, rig, 10 ** 9)
                            self.assertEqual(told[0] == "seating", how_many(crew, rig) > 0)
                            if told[0] == "seats":
                                self.assertEqual(told, plain_shortage(crew, rig))


if __name__ == "__main__":
    unittest.main()
