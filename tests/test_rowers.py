import unittest

from rowtrim.rowers import are_rowers, arm_of, is_rig, is_rower, is_seating, trim_of
from tests.helper import EIGHT, FOUR, PAIR, THINGS, every_rig, plain_seatings, plain_trim

NAMES = ["a", "b", "c", "d", "e", "f", "g", "h", "i", "j"]
CREW = [("ann", "port", 70), ("bob", "starboard", 80), ("cy", "both", 60), ("dee", "port", 75), ("eve", "both", 50)]


class Told(unittest.TestCase):
    """A truth is told as True or False itself."""

    def yes(self, answer):
        self.assertIs(answer, True)

    def no(self, answer):
        self.assertIs(answer, False)


class Rower(Told):
    def test_names(self):
        for name in ("a", "z", "ab", "abcdefgh", "zzzzzzzz", "port"):
            with self.subTest(name):
                self.yes(is_rower((name, "port", 1)))

    def test_other_names(self):
        wrong = ["", "abcdefghi", "A", "aB", "a b", " a", "a ", "a\n", "a1", "1", "a-b", "a`", "a{", "_", "~", "\n"]
        for name in wrong + [None, True, 1, ["a"], ("a",), []]:
            with self.subTest(name):
                self.no(is_rower((name, "port", 1)))

    def test_letters_of_other_alphabets_are_none(self):
        for name in ("\u00e9", "\u00df", "\u0430", "a\u00e9"):
            self.no(is_rower((name, "port", 1)))

    def test_sides(self):
        for sides in ("port", "starboard", "both"):
            self.yes(is_rower(("a", sides, 1)))
        wrong = ["", "p", "Port", "PORT", "port ", "ports", "none", "bow", "star", "port\n"]
        for sides in wrong + [None, True, 0, 1, ["port"], ("port",), PAIR, []]:
            with self.subTest(sides):
                self.no(is_rower(("a", sides, 1)))

    def test_weights(self):
        for weight in (1, 2, 70, 999999, 10 ** 6):
            self.yes(is_rower(("a", "both", weight)))
        for weight in (0, -1, 10 ** 6 + 1, 10 ** 39, -(10 ** 39), True, False, None, "1", "", [1], (1,)):
            with self.subTest(weight):
                self.no(is_rower(("a", "both", weight)))

    def test_form(self):
        self.no(is_rower(["a", "port", 1]))
        self.no(is_rower(()))
        self.no(is_rower(("a",)))
        self.no(is_rower(("a", "port")))
        self.no(is_rower(("a", "port", 1, 1)))
        self.no(is_rower(("port", "a", 1)))
        self.no(is_rower(("a", 1, "port")))

    def test_anything(self):
        for thing in THINGS:
            with self.subTest(thing):
                self.assertIs(is_rower(thing), thing == ("a", "port", 1))

    def test_anything_as_a_part(self):
        for thing in THINGS:
            with self.subTest(thing):
                self.assertIs(is_rower((thing, "port", 1)), thing in ("a", "port", "both"))
                self.assertIs(is_rower(("a", thing, 1)), thing in ("port", "starboard", "both"))
                a_weight = thing in (1, 2, 8, 10 ** 6) and thing is not True
                self.assertIs(is_rower(("a", "port", thing)), a_weight)


class Rowers(Told):
    def test_how_many(self):
        crew = [(name, "both", 9) for name in NAMES]
        self.no(are_rowers([]))
        for many in (1, 2, 3, 4, 5, 6, 7, 8):
            self.yes(are_rowers(crew[:many]))
        self.no(are_rowers(crew[:9]))
        self.no(are_rowers(crew))

    def test_one_name_twice(self):
        self.no(are_rowers([("a", "port", 1), ("a", "port", 1)]))
        self.no(are_rowers([("a", "port", 1), ("b", "both", 1), ("a", "starboard", 2)]))
        self.yes(are_rowers([("a", "port", 1), ("b", "port", 1)]))

    def test_one_that_is_no_rower(self):
        good = ("a", "port", 1)
        for wrong in (["b", "port", 1], ("b", "port", 0), ("b", "port", True), ("b", "left", 1), ("B", "port", 1)):
            with self.subTest(wrong):
                self.no(are_rowers([wrong]))
                self.no(are_rowers([good, wrong]))
                self.no(are_rowers([wrong, good]))

    def test_form(self):
        self.no(are_rowers((("a", "port", 1),)))
        self.no(are_rowers(("a", "port", 1)))
        self.no(are_rowers("a"))

    def test_anything(self):
        for thing in THINGS:
            with self.subTest(thing):
                self.assertIs(are_rowers(thing), thing == [("a", "port", 1)])
                self.assertIs(are_rowers([thing]), thing == ("a", "port", 1))
                self.no(are_rowers([thing, thing]))


class Rig(Told):
    def test_every_rig(self):
        for many, rigs in ((2, 2), (4, 6), (6, 20), (8, 70)):
            self.assertEqual(len(every_rig(many)), rigs)
            for rig in every_rig(many):
                self.yes(is_rig(rig))

    def test_how_many_seats(self):
        for many in (0, 3, 5, 7, 9, 10, 12):
            with self.subTest(many):
                self.no(is_rig((PAIR * 6)[:many]))
        self.no(is_rig(("port",)))

    def test_unlike_many_of_each(self):
        self.no(is_rig(("port", "port")))
        self.no(is_rig(("starboard", "starboard")))
        self.no(is_rig(("port", "port", "port", "starboard")))
        self.no(is_rig(("port", "starboard", "starboard", "starboard")))
        self.no(is_rig(("port",) * 5 + ("starboard",) * 3))

    def test_other_words(self):
        for word in ("both", "", "Port", "left", "p", None, True, 0, ["port"], ("port",), []):
            with self.subTest(word):
                self.no(is_rig(("port", word)))
                self.no(is_rig((word, "starboard")))
                self.no(is_rig(("port", "starboard", word)))
                self.no(is_rig(("port", "starboard", word, word)))
                self.no(is_rig(("port", word, word, "starboard")))

    def test_form(self):
        self.no(is_rig(["port", "starboard"]))
        self.no(is_rig("ps"))
        self.no(is_rig("port"))

    def test_anything(self):
        for thing in THINGS:
            with self.subTest(thing):
                self.assertIs(is_rig(thing), thing in (PAIR, FOUR))
                self.no(is_rig((thing, thing)))


class Arm(unittest.TestCase):
    def test_arms(self):
        arms = [
            (2, [-1, 1]), (4, [-3, -1, 1, 3]), (6, [-5, -3, -1, 1, 3, 5]), (8, [-7, -5, -3, -1, 1, 3, 5, 7]),
        ]
        for many, told in arms:
            for rig in every_rig(many):
                self.assertEqual([arm_of(rig, seat) for seat in range(many)], told)


class Trim(unittest.TestCase):
    def test_by_hand(self):
        self.assertEqual(trim_of(CREW, PAIR, ("ann", "bob")), 10)
        self.assertEqual(trim_of(CREW, PAIR, ("ann", "cy")), -10)
        self.assertEqual(trim_of(CREW, FOUR, ("ann", "bob", "dee", "cy")), -3 * 70 - 80 + 75 + 3 * 60)
        self.assertEqual(trim_of([("a", "both", 5), ("b", "both", 5)], PAIR, ("b", "a")), 0)

    def test_the_heaviest(self):
        crew = [("a", "both", 1), ("b", "both", 10 ** 6)]
        self.assertEqual(trim_of(crew, PAIR, ("a", "b")), 999999)
        self.assertEqual(trim_of(crew, PAIR, ("b", "a")), -999999)

    def test_of_eight(self):
        crew = [(name, "both", 10 ** at) for at, name in enumerate(NAMES[:7])] + [("h", "both", 3)]
        told = -7 - 5 * 10 - 3 * 100 - 1000 + 10 ** 4 + 3 * 10 ** 5 + 5 * 10 ** 6 + 7 * 3
        self.assertEqual(trim_of(crew, EIGHT, tuple("abcdefgh")), told)
        self.assertEqual(trim_of(crew[::-1], EIGHT, tuple("abcdefgh")), told)

    def test_of_every_seating(self):
        for rig in every_rig(4):
            for seating in plain_seatings(CREW, rig):
                self.assertEqual(trim_of(CREW, rig, seating), plain_trim(CREW, rig, seating))


class Seating(Told):
    def test_seatings(self):
        self.yes(is_seating(CREW, PAIR, ("ann", "bob")))
        self.yes(is_seating(CREW, PAIR, ("cy", "eve")))
        self.yes(is_seating(CREW, PAIR, ("eve", "cy")))
        self.yes(is_seating(CREW, FOUR, ("dee", "bob", "ann", "eve")))

    def test_a_name_twice(self):
        self.no(is_seating(CREW, PAIR, ("cy", "cy")))
        self.no(is_seating(CREW, FOUR, ("ann", "cy", "dee", "cy")))
        self.no(is_seating(CREW, FOUR, ("ann", "bob", "ann", "cy")))

    def test_a_name_of_nobody(self):
        self.no(is_seating(CREW, PAIR, ("ann", "zoe")))
        self.no(is_seating(CREW, PAIR, ("zoe", "bob")))
        self.no(is_seating(CREW, PAIR, ("", "bob")))
        self.no(is_seating(CREW, PAIR, ("Ann", "bob")))

    def test_the_wrong_side(self):
        self.no(is_seating(CREW, PAIR, ("bob", "ann")))
        self.no(is_seating(CREW, PAIR, ("cy", "dee")))
        self.no(is_seating(CREW, ("starboard", "port"), ("ann", "cy")))
        self.no(is_seating(CREW, FOUR, ("ann", "bob", "dee", "port")))

    def test_fewer_or_more_names(self):
        self.no(is_seating(CREW, PAIR, ()))
        self.no(is_seating(CREW, PAIR, ("ann",)))
        self.no(is_seating(CREW, PAIR, ("ann", "bob", "cy")))
        self.no(is_seating(CREW, FOUR, ("ann", "bob")))

    def test_form(self):
        self.no(is_seating(CREW, PAIR, ["ann", "bob"]))
        self.no(is_seating([("a", "port", 1), ("b", "starboard", 1)], PAIR, "ab"))
        self.no(is_seating(CREW, PAIR, (("ann",), ("bob",))))
        self.no(is_seating(CREW, PAIR, (CREW[0], CREW[1])))

    def test_anything(self):
        for thing in THINGS:
            with self.subTest(thing):
                self.no(is_seating(CREW, PAIR, thing))
                self.no(is_seating(CREW, PAIR, (thing, "bob")))
                self.no(is_seating(CREW, PAIR, ("ann", thing)))
                self.no(is_seating(CREW, PAIR, (thing, thing)))

    def test_every_order_of_the_names(self):
        everybody = [(name, "both", 1) for name, sides, weight in CREW]
        for rig in every_rig(2) + every_rig(4):
            right = plain_seatings(CREW, rig)
            for order in plain_seatings(everybody, rig):
                self.assertIs(is_seating(CREW, rig, order), order in right)


if __name__ == "__main__":
    unittest.main()
