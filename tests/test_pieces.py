import re
import unittest
from fractions import Fraction
from itertools import combinations
from math import gcd
from random import Random

from rowtrim.errors import NoTrial, RowError
from rowtrim.pieces import is_piece, margin, trial_of
from tests.helper import THINGS

A_B = (("a",), ("b",), 10, 12, 5)
FOURS = (("ann", "bob", "cy", "dee"), ("eve", "fay", "gus", "hal"), 400, 410, 2000)
# Where both crews must be as many, and none in both, this one stands against the one that is looked at.
AGAINST = {1: ("z",), 2: ("y", "z"), 3: ("x", "y", "z"), 4: ("w", "x", "y", "z"), 5: ("v", "w", "x", "y", "z")}


def both_ways(crew):
    """Pieces with the crew as first and as second one."""
    other = AGAINST.get(len(crew), ("z",))
    return [(crew, other, 7, 8, 9), (other, crew, 7, 8, 9)]


def drawn_crews(draw, many):
    names = draw.sample(["a", "ab", "abc", "b", "ba", "c", "z", "zz", "zzzzzzzz"], 2 * many)
    return tuple(sorted(names[:many])), tuple(sorted(names[many:]))


def drawn_pieces():
    """Pieces of every size, the same each time."""
    pieces = []
    for seed in range(400):
        draw = Random(seed)
        most = draw.choice([2, 12, 600, 10 ** 9])
        pieces.append(drawn_crews(draw, 1 + seed % 4) + tuple(draw.randint(1, most) for part in range(3)))
    return pieces


def plain_margin(piece):
    first, second, time, other, course = piece
    return Fraction(other, course) - Fraction(time, course)


def plain_piece(thing):
    """Whether thing is a piece, decided by how Python writes it."""
    crew = r"\('[a-z]{1,8}'(?:,|(?:, '[a-z]{1,8}'){1,3})\)"
    if not re.fullmatch(rf"\({crew}, {crew}, [1-9]\d*, [1-9]\d*, [1-9]\d*\)", repr(thing)):
        return False
    first, second, *numbers = thing
    unlike = len(set(first + second)) == 2 * len(first) == 2 * len(second)
    return unlike and [sorted(first), sorted(second)] == [list(first), list(second)] and max(numbers) <= 10 ** 9


def spoilt(piece, draw):
    """Something like the piece, with one part or one name of it changed."""
    parts = [list(part) if isinstance(part, tuple) else part for part in piece]
    at = draw.randrange(5)
    if at < 2 and draw.randrange(3):
        name = draw.choice(parts[0] + parts[1] + ["m", "mm", "M", "", "abcdefghi", 1, None, ["a"]])
        where = draw.randrange(len(parts[at]) + 1)
        parts[at][where:where + draw.randrange(2)] = [name] * draw.randrange(2)
    else:
        parts[at] = draw.choice([0, 1, -1, 10 ** 9, 10 ** 9 + 1, True, None, "a", ("a",), ["a"], (), [("a",)]])
    return tuple(tuple(part) if isinstance(part, list) and draw.randrange(9) else part for part in parts)


class Told(unittest.TestCase):
    """A truth is told as True or False itself."""

    def yes(self, *things):
        for thing in things:
            with self.subTest(thing):
                self.assertIs(is_piece(thing), True)

    def no(self, *things):
        for thing in things:
            with self.subTest(thing):
                self.assertIs(is_piece(thing), False)


class Crews(Told):
    def test_how_many(self):
        for many in (1, 2, 3, 4):
            self.yes(*both_ways(tuple("abcd"[:many])))
        self.no(*both_ways(tuple("abcde")))
        self.no(*both_ways(()))
        self.no(((), (), 7, 8, 9))

    def test_unlike_many(self):
        for many in (1, 2, 3, 4):
            for others in (0, 1, 2, 3, 4, 5):
                if many != others:
                    self.no((tuple("abcde"[:many]), tuple("vwxyz"[:others]), 7, 8, 9))
                    self.no((tuple("abcde"[:others]), tuple("vwxyz"[:many]), 7, 8, 9))

    def test_names(self):
        for name in ("a", "m", "abcdefgh", "mmmmmmmm"):
            self.yes(*both_ways((name,)))
        wrong = ["", "abcdefghi", "A", "aB", "a b", " a", "a ", "a\n", "a1", "1", "a-b", "a`", "a{", "_", "\u00e9"]
        for name in wrong + [None, True, False, 0, 1, ["a"], ("a",), [], ()]:
            self.no(*both_ways((name,)))
            self.no(*both_ways(("a", name)))
            self.no(*both_ways((name, "m")))

    def test_names_that_fall(self):
        self.no(*both_ways(("b", "a")))
        self.no(*both_ways(("ab", "a")))
        self.no(*both_ways(("a", "c", "b")))
        self.no(*both_ways(("b", "a", "c")))
        self.no(*both_ways(("a", "b", "d", "c")))
        self.no(*both_ways(("a", "c", "b", "d")))
        self.yes(*both_ways(("a", "ab", "abc", "b")))

    def test_one_name_twice(self):
        self.no(*both_ways(("a", "a")))
        self.no(*both_ways(("a", "a", "b")))
        self.no(*both_ways(("a", "b", "b")))
        self.no(*both_ways(("a", "b", "a")))
        self.no(*both_ways(("a", "b", "b", "c")))

    def test_one_name_in_both(self):
        self.no((("a",), ("a",), 7, 8, 9))
        self.no((("a", "b"), ("a", "b"), 7, 8, 9))
        self.no((("a", "b"), ("b", "c"), 7, 8, 9))
        self.no((("b", "c"), ("a", "b"), 7, 8, 9))
        for at in range(4):
            for name in FOURS[0]:
                second = tuple(sorted(FOURS[1][:at] + (name,) + FOURS[1][at + 1:]))
                self.no((FOURS[0], second, 7, 8, 9), (second, FOURS[0], 7, 8, 9))
        self.yes((("a", "b"), ("aa", "bb"), 7, 8, 9))

    def test_form(self):
        self.no(*both_ways(["a"]))
        self.no(*both_ways(["a", "b"]))
        self.no(*both_ways("a"))
        self.no(*both_ways({"a": 1}))
        self.no((["a"], ["z"], 7, 8, 9))
        self.no(("a", "z", 7, 8, 9))


class Pieces(Told):
    def test_ordinary(self):
        self.yes(A_B, FOURS, (("bob",), ("ann",), 61, 60, 250), (("m", "o"), ("l", "n"), 1, 1, 1))

    def test_times_and_the_course(self):
        for at in (2, 3, 4):
            for number in (1, 2, 10 ** 6, 10 ** 9 - 1, 10 ** 9):
                self.yes(A_B[:at] + (number,) + A_B[at + 1:])
            for thing in (0, -1, 10 ** 9 + 1, 10 ** 39, -(10 ** 39), True, False, None, "1", "", [1], (1,), (1, 1)):
                self.no(A_B[:at] + (thing,) + A_B[at + 1:])

    def test_a_part_more_or_fewer(self):
        for piece in (A_B, FOURS):
            self.no(*[piece[:at] + piece[at + 1:] for at in range(5)])
            self.no(*[piece[:at] + (part,) + piece[at:] for at in range(6) for part in (("m",), 1, None)])
            self.no((piece,), (piece, piece), ())

    def test_parts_in_another_order(self):
        first, second, time, other, course = A_B
        self.no((time, other, course, first, second), (first, time, second, other, course))
        self.no((first, time, other, course, second), (first + second, time, other, course))

    def test_a_list(self):
        self.no(list(A_B), [A_B], list(FOURS))

    def test_anything(self):
        self.no(*THINGS)
        for thing in THINGS:
            self.no((thing,) * 5)

    def test_anything_as_a_part(self):
        for thing in THINGS:
            with self.subTest(thing):
                for at in (0, 1):
                    piece = (("y",), ("z",), 7, 8, 9)
                    self.assertIs(is_piece(piece[:at] + (thing,) + piece[at + 1:]), thing == ("a",))
                    alone = piece[:at] + ((thing,),) + piece[at + 1:]
                    self.assertIs(is_piece(alone), thing in ("a", "port", "both"))
                for at in (2, 3, 4):
                    a_number = thing in (1, 2, 8, 10 ** 6) and thing is not True
                    self.assertIs(is_piece(A_B[:at] + (thing,) + A_B[at + 1:]), a_number)

    def test_drawn(self):
        answers = []
        for seed, piece in enumerate(drawn_pieces()):
            self.yes(piece)
            draw = Random(seed)
            for thing in [spoilt(piece, draw) for turn in range(10)]:
                answers.append(plain_piece(thing))
                self.assertIs(is_piece(thing), plain_piece(thing), thing)
        self.assertGreater(answers.count(True), 200)
        self.assertGreater(answers.count(False), 200)


class Margin(unittest.TestCase):
    def test_above_nought(self):
        self.assertEqual(margin(A_B), (2, 5))
        self.assertEqual(margin((("a",), ("b",), 1, 2, 1)), (1, 1))
        self.assertEqual(margin((("a",), ("b",), 1, 7, 2)), (3, 1))
        self.assertEqual(margin(FOURS), (1, 200))
        self.assertEqual(margin((("a",), ("b",), 1, 10 ** 9, 10 ** 9)), (10 ** 9 - 1, 10 ** 9))
        self.assertEqual(margin((("a",), ("b",), 1, 10 ** 9, 1)), (10 ** 9 - 1, 1))

    def test_below_nought(self):
        self.assertEqual(margin((("a",), ("b",), 12, 10, 5)), (-2, 5))
        self.assertEqual(margin((("a",), ("b",), 2, 1, 1)), (-1, 1))
        self.assertEqual(margin((("a",), ("b",), 10, 6, 6)), (-2, 3))
        self.assertEqual(margin((("a",), ("b",), 10 ** 9, 1, 10 ** 9)), (1 - 10 ** 9, 10 ** 9))

    def test_nought(self):
        for time, course in ((1, 1), (5, 7), (10 ** 9, 10 ** 9), (3, 10 ** 9)):
            self.assertEqual(margin((("a",), ("b",), time, time, course)), (0, 1))

    def test_kinds(self):
        for piece in (A_B, FOURS, (("a",), ("b",), 3, 3, 3)):
            self.assertEqual([type(margin(piece))] + [type(part) for part in margin(piece)], [tuple, int, int])

    def test_drawn(self):
        signs = []
        for piece in drawn_pieces():
            top, bottom = margin(piece)
            signs.append((top > 0) - (top < 0))
            self.assertGreater(bottom, 0)
            self.assertEqual(gcd(top, bottom), 1)
            self.assertEqual((top, bottom), plain_margin(piece).as_integer_ratio())
        for sign in (-1, 0, 1):
            self.assertGreater(signs.count(sign), 10)

    def test_told_the_other_way_about(self):
        for piece in drawn_pieces():
            first, second, time, other, course = piece
            top, bottom = margin(piece)
            self.assertEqual(margin((second, first, other, time, course)), (-top, bottom))

    def test_so_often_as_much(self):
        for first, second, time, other, course in drawn_pieces():
            if max(time, other, course) <= 10 ** 6:
                for often in (2, 3, 60, 1000):
                    more = (first, second, time * often, other * often, course * often)
                    self.assertEqual(margin(more), margin((first, second, time, other, course)))


def swapped(piece, one, other, numbers):
    """The piece again with the two exchanged, and its own times and course."""
    turned = {one: other, other: one}
    crews = tuple(tuple(sorted(turned.get(name, name) for name in crew)) for crew in piece[:2])
    return crews + tuple(numbers)


class TrialOf(unittest.TestCase):
    def refused(self, one, other):
        with self.subTest(one=one, other=other):
            for pair in ((one, other), (other, one)):
                with self.assertRaises(NoTrial) as caught:
                    trial_of(*pair)
                self.assertIsInstance(caught.exception, RowError)

    def test_crews_of_one(self):
        # a wins by 2/5 in the one boat, and by 1/10 in the other.
        self.assertEqual(trial_of(A_B, (("b",), ("a",), 11, 10, 10)), ("a", "b", (1, 2)))
        self.assertEqual(trial_of(A_B, (("b",), ("a",), 10, 11, 10)), ("a", "b", (3, 10)))
        self.assertEqual(trial_of(A_B, (("b",), ("a",), 10, 15, 10)), ("b", "a", (1, 10)))

    def test_crews_of_two(self):
        one = (("ann", "cy"), ("bob", "dee"), 100, 104, 500)
        self.assertEqual(trial_of(one, (("bob", "cy"), ("ann", "dee"), 102, 100, 500)), ("ann", "bob", (3, 250)))
        self.assertEqual(trial_of(one, (("ann", "dee"), ("bob", "cy"), 100, 109, 500)), ("dee", "cy", (1, 100)))
        self.assertEqual(trial_of(one, (("ann", "bob"), ("cy", "dee"), 50, 52, 250)), ("bob", "cy", (0, 1)))

    def test_crews_of_four(self):
        other = (("ann", "bob", "dee", "hal"), ("cy", "eve", "fay", "gus"), 400, 404, 2000)
        self.assertEqual(trial_of(FOURS, other), ("cy", "hal", (3, 1000)))
        other = (("bob", "cy", "dee", "eve"), ("ann", "fay", "gus", "hal"), 200, 212, 1000)
        self.assertEqual(trial_of(FOURS, other), ("eve", "ann", (7, 1000)))

    def test_by_nought_both_rise(self):
        self.assertEqual(trial_of((("b",), ("a",), 10, 12, 5), (("a",), ("b",), 20, 24, 10)), ("a", "b", (0, 1)))
        self.assertEqual(trial_of((("a",), ("b",), 10, 12, 5), (("b",), ("a",), 20, 24, 10)), ("a", "b", (0, 1)))
        self.assertEqual(trial_of((("b",), ("a",), 7, 7, 3), (("a",), ("b",), 9, 9, 8)), ("a", "b", (0, 1)))
        self.assertEqual(trial_of((("ab",), ("b",), 9, 7, 3), (("b",), ("ab",), 9, 7, 3)), ("ab", "b", (0, 1)))

    def test_every_exchange_of_every_piece(self):
        signs = []
        for seed, piece in enumerate(drawn_pieces()):
            draw = Random(seed)
            for one in piece[0]:
                for other in piece[1]:
                    most = draw.choice([2, 12, 600, 10 ** 9])
                    again = swapped(piece, one, other, [draw.randint(1, most) for part in range(3)])
                    self.assertIs(is_piece(again), True)
                    more = plain_margin(piece) - plain_margin(again)
                    names = (one, other) if more > 0 else (other, one) if more < 0 else tuple(sorted((one, other)))
                    right = names + (abs(more).as_integer_ratio(),)
                    self.assertEqual(trial_of(piece, again), right)
                    self.assertEqual(trial_of(again, piece), right)
                    signs.append((more > 0) - (more < 0))
        for sign in (-1, 0, 1):
            self.assertGreater(signs.count(sign), 50)

    def test_by_nought_of_every_size(self):
        for piece in drawn_pieces()[:40]:
            for one in piece[0]:
                for other in piece[1]:
                    right = tuple(sorted((one, other))) + ((0, 1),)
                    self.assertEqual(trial_of(piece, swapped(piece, one, other, piece[2:])), right)

    def test_the_same_piece_twice(self):
        for piece in [A_B, FOURS] + drawn_pieces()[:12]:
            self.refused(piece, piece)
            self.refused(piece, piece[:2] + (3, 4, 5))

    def test_two_of_each_exchanged(self):
        one = (("a", "b", "c"), ("x", "y", "z"), 7, 8, 9)
        self.refused(one, (("a", "x", "y"), ("b", "c", "z"), 7, 8, 9))
        self.refused(FOURS, (("ann", "bob", "eve", "fay"), ("cy", "dee", "gus", "hal"), 7, 8, 9))
        self.refused(FOURS, (("ann", "eve", "fay", "gus"), ("bob", "cy", "dee", "hal"), 7, 8, 9))

    def test_a_new_name(self):
        self.refused(A_B, (("b",), ("c",), 7, 8, 9))
        self.refused(A_B, (("c",), ("a",), 7, 8, 9))
        self.refused(A_B, (("c",), ("b",), 7, 8, 9))
        self.refused(A_B, (("a",), ("c",), 7, 8, 9))
        one = (("a", "b"), ("x", "y"), 7, 8, 9)
        self.refused(one, (("b", "x"), ("c", "y"), 7, 8, 9))
        self.refused(one, (("b", "c"), ("a", "y"), 7, 8, 9))
        self.refused(one, (("b", "x"), ("a", "c"), 7, 8, 9))
        self.refused(one, (("c", "x"), ("a", "y"), 7, 8, 9))
        self.refused(one, (("c", "d"), ("e", "f"), 7, 8, 9))

    def test_turned_about(self):
        for many in (2, 3, 4):
            first, second = tuple("abcd"[:many]), tuple("wxyz"[:many])
            self.refused((first, second, 7, 8, 9), (second, first, 7, 8, 9))
        # Of one in each crew this is an exchange of one of each.
        self.assertEqual(trial_of((("a",), ("w",), 7, 8, 9), (("w",), ("a",), 7, 8, 9)), ("a", "w", (0, 1)))

    def test_turned_about_and_one_exchanged(self):
        one = (("a", "b", "c"), ("x", "y", "z"), 7, 8, 9)
        self.refused(one, (("a", "y", "z"), ("b", "c", "x"), 7, 8, 9))
        # Of two in each crew the one exchange, turned about, is the exchange of the two others.
        one = (("a", "b"), ("x", "y"), 7, 8, 9)
        self.assertEqual(trial_of(one, (("a", "y"), ("b", "x"), 7, 9, 9)), ("y", "b", (1, 9)))
        self.assertEqual(trial_of(one, (("b", "x"), ("a", "y"), 7, 9, 9)), ("x", "a", (1, 9)))

    def test_another_size(self):
        self.refused((("a", "b"), ("x", "y"), 7, 8, 9), (("x",), ("a",), 7, 8, 9))
        self.refused((("a",), ("x",), 7, 8, 9), (("b", "x"), ("a", "y"), 7, 8, 9))
        self.refused((("a", "b", "c"), ("x", "y", "z"), 7, 8, 9), (("b", "x"), ("a", "y"), 7, 8, 9))
        self.refused(FOURS, (("bob", "cy", "eve"), ("ann", "fay", "gus"), 7, 8, 9))

    def test_every_two_pieces_of_six_names(self):
        for many in (1, 2, 3):
            crews = list(combinations("abcdef", many))
            pieces = [(one, other, 7, 8, 9) for one in crews for other in crews if not set(one) & set(other)]
            # Each exchange of one of each is found once from each piece, and nothing else is a trial.
            told = [self.names(one, other) for one in pieces for other in pieces]
            self.assertEqual(len([names for names in told if names]), len(pieces) * many * many)

    def names(self, one, other):
        """The two who are tried, or None; checked by who left and who came."""
        out, into = set(one[0]) - set(other[0]), set(other[0]) - set(one[0])
        back, forth = set(one[1]) - set(other[1]), set(other[1]) - set(one[1])
        if len(out) == len(into) == 1 and (out, into) == (forth, back):
            self.assertEqual(trial_of(one, other)[:2], tuple(sorted(out | into)))
            return out | into
        self.refused(one, other)
        return None


if __name__ == "__main__":
    unittest.main()
