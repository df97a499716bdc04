import re
import unittest
from random import Random

from rowtrim.errors import NoText, RowError
from rowtrim.texts import read_piece, read_rower, show_fraction, show_piece, show_rower
from tests.helper import THINGS, drawn_rowers

SIGNS = "".join(sign for sign in map(chr, range(32, 127)) if sign != "%") + "\n"
ROWERS = {
    "ann:port:70": ("ann", "port", 70),
    "a:both:1": ("a", "both", 1),
    "zzzzzzzz:starboard:1000000": ("zzzzzzzz", "starboard", 10 ** 6),
    "port:port:10": ("port", "port", 10),
    "both:both:999999": ("both", "both", 999999),
}
PIECES = {
    "a b 1 1 1": (("a",), ("b",), 1, 1, 1),
    "ann+cy bob+dee 100 104 500": (("ann", "cy"), ("bob", "dee"), 100, 104, 500),
    "b a 1000000000 1000000000 1000000000": (("b",), ("a",), 10 ** 9, 10 ** 9, 10 ** 9),
    "a+ab+abc+b c+d+e+zzzzzzzz 1000000000 1 20": (("a", "ab", "abc", "b"), ("c", "d", "e", "zzzzzzzz"), 10 ** 9, 1, 20),
    "x+y+z a+b+c 305 300 101": (("x", "y", "z"), ("a", "b", "c"), 305, 300, 101),
}


def plain_rower_text(text):
    """Whether the text writes a rower, decided by its form alone."""
    match = re.fullmatch(r"[a-z]{1,8}:(?:port|starboard|both):([1-9][0-9]{0,6})", text)
    return bool(match) and int(match[1]) <= 10 ** 6


def plain_piece_text(text):
    """Whether the text writes a piece, decided by its form alone."""
    crew, number = r"([a-z]{1,8}(?:\+[a-z]{1,8}){0,3})", "([1-9][0-9]{0,9})"
    match = re.fullmatch(f"{crew} {crew} {number} {number} {number}", text)
    if not match:
        return False
    first, second = match[1].split("+"), match[2].split("+")
    rising = first == sorted(set(first)) and second == sorted(set(second))
    unlike = len(first) == len(second) and not set(first) & set(second)
    return rising and unlike and all(int(match[at]) <= 10 ** 9 for at in (3, 4, 5))


def spoilt(text, draw):
    """The text with one sign put in, left out or exchanged."""
    at = draw.randrange(len(text) + 1)
    sign = draw.choice([draw.choice(SIGNS), draw.choice("0123456789"), draw.choice(":+ -/a\n"), ""])
    return text[:at] + sign + text[at + draw.randrange(2):]


def drawn_pieces():
    pieces = []
    for seed in range(200):
        draw = Random(seed)
        names = draw.sample(["a", "ab", "abc", "b", "ba", "c", "z", "zz", "zzzzzzzz"], 2 + seed % 4 * 2)
        crews = (tuple(sorted(names[::2])), tuple(sorted(names[1::2])))
        pieces.append(crews + tuple(draw.randint(1, draw.choice([9, 600, 10 ** 9])) for part in range(3)))
    return pieces


class Case(unittest.TestCase):
    def refused(self, read, *things):
        for thing in things:
            with self.subTest(read=read.__name__, thing=thing):
                with self.assertRaises(RowError) as caught:
                    read(thing)
                self.assertIs(type(caught.exception), NoText)


class Rowers(Case):
    def test_written(self):
        for text, rower in ROWERS.items():
            self.assertEqual(show_rower(rower), text)

    def test_read_back(self):
        for text, rower in ROWERS.items():
            self.assertEqual(read_rower(text), rower)
            self.assertEqual([type(part) for part in (read_rower(text),) + read_rower(text)], [tuple, str, str, int])

    def test_drawn(self):
        for seed in range(60):
            for rower in drawn_rowers(seed, 6, 10 ** 6):
                self.assertEqual(show_rower(rower), ":".join(map(str, rower)))
                self.assertEqual(read_rower(show_rower(rower)), rower)

    def test_a_part_left_out_or_more(self):
        self.refused(read_rower, "", ":", "::", ":::", "ann", "ann:port", "port:70", "ann:70", "ann:port:", ":port:70")
        self.refused(read_rower, "ann::70", "ann:port:70:", ":ann:port:70", "ann:port:70:70", "ann:port:port:70")

    def test_blanks_and_line_ends(self):
        for sign in (" ", "\n", "\t", "  "):
            for at in range(len("ann:port:70") + 1):
                self.refused(read_rower, "ann:port:70"[:at] + sign + "ann:port:70"[at:])

    def test_other_numbers(self):
        for number in "0 00 01 070 -1 -70 +70 1000001 10000000 7.0 7e1 0x7 70_0 1_0 7a a".split() + ["9" * 1980, "-0"]:
            self.refused(read_rower, f"ann:port:{number}")

    def test_other_names_and_sides(self):
        for name in ("", "Ann", "abcdefghi", "a1", "a b", "a+b", "-", "\n"):
            self.refused(read_rower, f"{name}:port:70")
        for sides in ("", "Port", "p", "left", "ports", "por", "port,starboard", "starboard/port"):
            self.refused(read_rower, f"ann:{sides}:70")

    def test_other_signs_between(self):
        self.refused(read_rower, "ann port 70", "ann;port;70", "ann,port,70", "ann:port 70", "ann-port:70", "annport70")

    def test_pieces(self):
        self.refused(read_rower, *PIECES)

    def test_anything(self):
        self.refused(read_rower, *THINGS)
        self.refused(read_rower, *ROWERS.values())
        self.refused(read_rower, ["ann:port:70"], ("ann:port:70",), ["ann", "port", "70"], 70)

    def test_spoilt(self):
        answers = []
        for seed in range(3000):
            draw = Random(seed)
            text = spoilt(draw.choice(list(ROWERS)), draw)
            answers.append(plain_rower_text(text))
            if answers[-1]:
                self.assertEqual(show_rower(read_rower(text)), text)
            else:
                self.refused(read_rower, text)
        self.assertGreater(answers.count(True), 300)
        self.assertGreater(answers.count(False), 300)


class Fractions(Case):
    def test_whole(self):
        for top in (0, 1, 7, 10, 10 ** 9, 10 ** 39, -1, -10, -(10 ** 39)):
            self.assertEqual(show_fraction((top, 1)), str(top))

    def test_broken(self):
        self.assertEqual(show_fraction((1, 2)), "1/2")
        self.assertEqual(show_fraction((-1, 2)), "-1/2")
        self.assertEqual(show_fraction((7, 3)), "7/3")
        self.assertEqual(show_fraction((-22, 7)), "-22/7")
        self.assertEqual(show_fraction((1, 10)), "1/10")
        self.assertEqual(show_fraction((10 ** 9 - 1, 10 ** 18)), "999999999/1000000000000000000")
        self.assertEqual(show_fraction((1 - 10 ** 9, 10 ** 9)), "-999999999/1000000000")

    def test_nought(self):
        self.assertEqual(show_fraction((0, 1)), "0")


class Pieces(Case):
    def test_written(self):
        for text, piece in PIECES.items():
            self.assertEqual(show_piece(piece), text)

    def test_read_back(self):
        for text, piece in PIECES.items():
            told = read_piece(text)
            self.assertEqual(told, piece)
            self.assertEqual([type(part) for part in (told,) + told], [tuple, tuple, tuple, int, int, int])

    def test_drawn(self):
        for piece in drawn_pieces():
            right = " ".join(["+".join(piece[0]), "+".join(piece[1])] + [str(number) for number in piece[2:]])
            self.assertEqual(show_piece(piece), right)
            self.assertEqual(read_piece(right), piece)

    def test_a_part_left_out_or_more(self):
        for text in PIECES:
            parts = text.split(" ")
            for at in range(5):
                self.refused(read_piece, " ".join(parts[:at] + parts[at + 1:]))
                self.refused(read_piece, " ".join(parts[:at] + [""] + parts[at + 1:]))
                self.refused(read_piece, " ".join(parts[:at] + ["q"] + parts[at:]))
                self.refused(read_piece, " ".join(parts[:at] + ["1"] + parts[at:]))
            self.refused(read_piece, text + " 1", text + " q", text + " " + text)
        self.refused(read_piece, "", " ", "    ", "     ")

    def test_blanks_and_line_ends(self):
        for text in ("a b 1 1 1", "ann+cy bob+dee 100 104 500"):
            for sign in (" ", "\n", "\t", "  "):
                for at in range(len(text) + 1):
                    self.refused(read_piece, text[:at] + sign + text[at:])
            self.refused(read_piece, text.replace(" ", "\n"), text.replace(" ", "\t"), text.replace(" ", ":"))

    def test_other_numbers(self):
        wrong = "0 00 01 -1 +1 1000000001 10000000000 1.0 1e1 0x1 1_0 1a a 1/1 1+1 -0".split() + ["9" * 1980]
        for number in wrong:
            self.refused(read_piece, f"a b {number} 1 1", f"a b 1 {number} 1", f"a b 1 1 {number}")

    def test_crews_that_fall(self):
        for crew, other in (("b+a", "c+d"), ("ab+a", "c+d"), ("b+c+a", "x+y+z"), ("a+b+d+c", "w+x+y+z")):
            self.refused(read_piece, f"{crew} {other} 1 1 1", f"{other} {crew} 1 1 1")

    def test_a_name_twice_or_in_both(self):
        for crew, other in (("a+a", "c+d"), ("a+b+b", "x+y+z"), ("a", "a"), ("a+b", "b+c"), ("a+b", "a+b")):
            self.refused(read_piece, f"{crew} {other} 1 1 1", f"{other} {crew} 1 1 1")

    def test_other_crews(self):
        for crew in ("A", "abcdefghi", "a1", "+", "a+", "+a", "a++b", "a+B", "a,b", "a-b", "1"):
            for other in ("y", "y+z"):
                self.refused(read_piece, f"{crew} {other} 1 1 1", f"{other} {crew} 1 1 1")
        self.refused(read_piece, "a b+c 1 1 1", "a+b c 1 1 1", "a+b+c+d+e v+w+x+y+z 1 1 1")

    def test_rowers(self):
        self.refused(read_piece, *ROWERS)

    def test_anything(self):
        self.refused(read_piece, *THINGS)
        self.refused(read_piece, *PIECES.values())
        self.refused(read_piece, ["a b 1 1 1"], ("a b 1 1 1",), ["a", "b", "1", "1", "1"])

    def test_spoilt(self):
        answers = []
        for seed in range(4000):
            draw = Random(seed)
            text = spoilt(draw.choice(list(PIECES)), draw)
            answers.append(plain_piece_text(text))
            if answers[-1]:
                self.assertEqual(show_piece(read_piece(text)), text)
            else:
                self.refused(read_piece, text)
        self.assertGreater(answers.count(True), 300)
        self.assertGreater(answers.count(False), 300)


if __name__ == "__main__":
    unittest.main()
