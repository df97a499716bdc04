import unittest
from fractions import Fraction
from random import Random

from rowtrim.clubs import Club
from rowtrim.errors import NoName, NoNumber, NoPiece, NoRower, NothingLeft, RowError, TooMany, Twice
from rowtrim.pieces import is_piece
from rowtrim.rowers import is_rower
from rowtrim.seatings import seated
from tests.helper import EIGHT, FOUR, PAIR, THINGS, plain_verdict

ANN, BOB, CY, DEE = ("ann", "port", 70), ("bob", "starboard", 80), ("cy", "both", 60), ("dee", "port", 75)
A_B = (("a",), ("b",), 10, 12, 5)
B_A = (("b",), ("a",), 11, 10, 10)
C_D = (("c",), ("d",), 7, 9, 3)
D_C = (("d",), ("c",), 7, 7, 3)
TEXTS = ["", " ", "a", "an", "anna", "Ann", "ann ", " ann", "ann\n", "x" * 2000, "~"]
WHOLE = [-1, -2, 7, 40, 10 ** 39, -(10 ** 39)]


def crew(many):
    return [(name, "both", 50 + at) for at, name in enumerate("abcdefghij"[:many])]


def club_of(*deeds):
    """A club in which these deeds were done: a rower comes, or a piece is told."""
    club = Club()
    for deed in deeds:
        if len(deed) == 3:
            club.come(deed)
        else:
            club.tell(deed)
    return club


def seen(club):
    """All that can be seen of a club without a deed."""
    return (club.rowers(), club.pieces(), club.trials(), len(club))


def whole_story(club):
    """All that was seen of a club from where it stands down to its first state, and up again to the last."""
    ahead = []
    while True:
        try:
            club.again()
        except NothingLeft:
            break
        ahead.append(seen(club))
    behind = [seen(club)]
    while True:
        try:
            club.back()
        except NothingLeft:
            break
        behind.append(seen(club))
    for turn in range(len(behind) - 1 - len(ahead)):
        club.again()
    return (ahead, behind)


class Case(unittest.TestCase):
    def refused(self, club, refusal, deed, *handed, many=None):
        """The deed is refused just so, and changes nothing, nor what can be taken back or done again."""
        before = whole_story(club)
        with self.subTest(deed=deed, handed=handed):
            with self.assertRaises(RowError) as caught:
                getattr(club, deed)(*handed)
            self.assertIs(type(caught.exception), refusal)
            if many is not None:
                self.assertEqual(caught.exception.many, many)
            self.assertEqual(whole_story(club), before)


class Rowers(Case):
    def test_at_first_none(self):
        self.assertEqual((Club().rowers(), Club().pieces(), Club().trials(), len(Club())), ([], [], [], 0))

    def test_they_come(self):
        club = Club()
        for rower in (CY, ANN, DEE, BOB):
            self.assertIsNone(club.come(rower))
            self.assertIn(rower, club.rowers())
        self.assertEqual(club.rowers(), [ANN, BOB, CY, DEE])

    def test_by_their_names(self):
        club = club_of(("b", "both", 1), ("ab", "port", 2), ("a", "starboard", 3), ("aa", "both", 10 ** 6))
        self.assertEqual([name for name, sides, weight in club.rowers()], ["a", "aa", "ab", "b"])

    def test_what_is_no_rower(self):
        for club in (Club(), club_of(ANN, A_B), club_of(*crew(8))):
            for thing in THINGS:
                if not is_rower(thing):
                    self.refused(club, NoRower, "come", thing)
            for thing in (list(ANN), ("Ann", "port", 70), ("ann", "left", 70), ("ann", "port", 0), ANN + (1,)):
                self.refused(club, NoRower, "come", thing)
            self.refused(club, NoRower, "come", ("ann", "port", 10 ** 6 + 1))
            self.refused(club, NoRower, "come", ("ann", "port", True))

    def test_anything_as_a_part_of_a_rower(self):
        club = club_of(ANN)
        for thing in THINGS:
            for at in range(3):
                rower = ("zoe", "port", 70)[:at] + (thing,) + ("zoe", "port", 70)[at + 1:]
                if not is_rower(rower):
                    self.refused(club, NoRower, "come", rower)

    def test_a_name_twice(self):
        club = club_of(ANN, BOB)
        self.refused(club, Twice, "come", ANN)
        self.refused(club, Twice, "come", ("ann", "both", 1))
        self.refused(club, Twice, "come", ("bob", "port", 80))
        club.go("ann")
        club.come(("ann", "both", 1))
        self.assertEqual(club.rowers(), [("ann", "both", 1), BOB])

    def test_too_many(self):
        club = club_of(*crew(8))
        self.assertEqual(len(club), 8)
        self.refused(club, TooMany, "come", ("i", "both", 9), many=9)
        self.refused(club, TooMany, "come", ("zoe", "port", 9), many=9)
        club.go("c")
        club.come(("i", "both", 9))
        self.refused(club, TooMany, "come", ("c", "both", 9), many=9)

    def test_which_refusal_goes_first(self):
        club = club_of(*crew(8))
        self.refused(club, NoRower, "come", ("a", "both", 0))
        self.refused(club, NoRower, "come", ["a", "both", 9])
        self.refused(club, Twice, "come", ("a", "both", 9))
        self.refused(club, Twice, "come", ("h", "port", 1))

    def test_they_go(self):
        club = club_of(ANN, BOB, CY)
        self.assertIsNone(club.go("bob"))
        self.assertEqual(club.rowers(), [ANN, CY])
        self.refused(club, NoName, "go", "bob")
        club.go("ann")
        club.go("cy")
        self.assertEqual(club.rowers(), [])
        self.refused(club, NoName, "go", "ann")

    def test_any_text_as_a_name(self):
        for club in (Club(), club_of(ANN, A_B)):
            for text in TEXTS:
                self.refused(club, NoName, "go", text)
                self.refused(club, NoName, "weigh", text, 70)

    def test_they_are_weighed(self):
        club = club_of(ANN, BOB, CY)
        for weight in (1, 71, 70, 70, 10 ** 6):
            self.assertIsNone(club.weigh("ann", weight))
            self.assertEqual(club.rowers(), [("ann", "port", weight), BOB, CY])
        club.weigh("cy", 5)
        self.assertEqual(club.rowers(), [("ann", "port", 10 ** 6), BOB, ("cy", "both", 5)])

    def test_what_is_no_weight(self):
        club = club_of(ANN, BOB)
        for thing in THINGS + [10 ** 6 + 1, "70", [70], (70,)]:
            if thing not in (1, 2, 8, 10 ** 6) or thing is True:
                self.refused(club, NoRower, "weigh", "ann", thing)
                # That nobody has the name is told first.
                self.refused(club, NoName, "weigh", "cy", thing)
                self.refused(club, NoName, "weigh", "", thing)


class Pieces(Case):
    def test_told_and_numbered(self):
        club = Club()
        for number, piece in enumerate((A_B, B_A, C_D, A_B)):
            told = club.tell(piece)
            self.assertEqual((told, type(told)), (number, int))
        self.assertEqual(club.pieces(), [(0, A_B), (1, B_A), (2, C_D), (3, A_B)])

    def test_what_is_no_piece(self):
        full = Club()
        for turn in range(40):
            full.tell(A_B)
        for club in (Club(), club_of(ANN, A_B), full):
            for thing in THINGS:
                self.refused(club, NoPiece, "tell", thing)
            self.refused(club, NoPiece, "tell", list(A_B))
            self.refused(club, NoPiece, "tell", (("a",), ("a",), 1, 1, 1))
            self.refused(club, NoPiece, "tell", (("b", "a"), ("c", "d"), 1, 1, 1))

    def test_anything_as_a_part_of_a_piece(self):
        club = club_of(ANN)
        for thing in THINGS:
            for at in range(5):
                piece = C_D[:at] + (thing,) + C_D[at + 1:]
                if not is_piece(piece):
                    self.refused(club, NoPiece, "tell", piece)

    def test_rowers_who_are_not_there(self):
        club = club_of(("a", "port", 1))
        self.assertEqual(club.tell((("a",), ("zoe",), 1, 2, 3)), 0)
        club.go("a")
        self.assertEqual(club.pieces(), [(0, (("a",), ("zoe",), 1, 2, 3))])

    def test_too_many(self):
        club = Club()
        for number in range(40):
            self.assertEqual(club.tell(A_B), number)
        self.refused(club, TooMany, "tell", B_A, many=41)
        self.refused(club, NoPiece, "tell", (("a",), ("b",), 0, 1, 1))
        club.strike(12)
        self.assertEqual(club.tell(B_A), 40)
        self.refused(club, TooMany, "tell", B_A, many=41)
        self.assertEqual([number for number, piece in club.pieces()], [at for at in range(41) if at != 12])

    def test_struck_out(self):
        club = club_of(A_B, B_A, C_D)
        self.assertIsNone(club.strike(1))
        self.assertEqual(club.pieces(), [(0, A_B), (2, C_D)])
        self.refused(club, NoNumber, "strike", 1)
        club.strike(0)
        club.strike(2)
        self.assertEqual(club.pieces(), [])

    def test_any_whole_number(self):
        for club in (Club(), club_of(A_B, B_A, ANN)):
            for number in WHOLE + [2]:
                self.refused(club, NoNumber, "strike", number)

    def test_numbers_behind_one_that_was_struck_out(self):
        club = club_of(A_B, B_A)
        club.strike(1)
        self.assertEqual(club.tell(C_D), 2)
        club.strike(0)
        club.strike(2)
        self.assertEqual(club.tell(D_C), 3)
        self.assertEqual(club.pieces(), [(3, D_C)])

    def test_numbers_behind_a_telling_that_was_taken_back(self):
        club = club_of(A_B, B_A)
        club.back()
        self.assertEqual(club.tell(C_D), 1)
        club.strike(1)
        club.back()
        club.back()
        club.come(ANN)
        self.assertEqual(club.tell(D_C), 1)
        self.assertEqual(club.pieces(), [(0, A_B), (1, D_C)])

    def test_numbers_behind_a_striking_that_was_taken_back(self):
        club = club_of(A_B, B_A)
        club.strike(1)
        self.assertEqual(club.tell(C_D), 2)
        club.back()
        club.back()
        self.assertEqual(club.pieces(), [(0, A_B), (1, B_A)])
        self.assertEqual(club.tell(D_C), 2)
        self.assertEqual(club.pieces(), [(0, A_B), (1, B_A), (2, D_C)])

    def test_a_telling_done_again_has_its_number(self):
        club = club_of(A_B, B_A)
        club.strike(0)
        club.tell(C_D)
        club.back()
        club.back()
        club.again()
        club.again()
        self.assertEqual(club.pieces(), [(1, B_A), (2, C_D)])
        self.assertEqual(club.tell(A_B), 3)


class TakenBack(Case):
    def test_each_kind_of_deed(self):
        deeds = [("come", BOB), ("go", "ann"), ("weigh", "ann", 99), ("weigh", "ann", 70), ("tell", C_D), ("strike", 0)]
        for deed, *handed in deeds:
            with self.subTest(deed):
                club = club_of(ANN, A_B, B_A)
                before = seen(club)
                getattr(club, deed)(*handed)
                behind = seen(club)
                for turn in range(3):
                    self.assertIsNone(club.back())
                    self.assertEqual(seen(club), before)
                    self.assertIsNone(club.again())
                    self.assertEqual(seen(club), behind)

    def test_a_deed_that_changes_nothing_to_be_seen_is_one(self):
        club = club_of(ANN)
        club.weigh("ann", 70)
        club.back()
        self.assertEqual(club.rowers(), [ANN])
        club.back()
        self.assertEqual(club.rowers(), [])
        club.again()
        club.again()
        self.refused(club, NothingLeft, "again")

    def test_all_down_to_the_first_and_up_to_the_last(self):
        club = Club()
        states = [seen(club)]
        deeds = [
            ("come", CY), ("tell", A_B), ("come", ANN), ("weigh", "cy", 9), ("tell", B_A), ("strike", 0), ("go", "cy"),
            ("tell", C_D), ("come", BOB), ("strike", 2), ("tell", D_C), ("go", "ann"), ("come", CY),
        ]
        for deed, *handed in deeds:
            getattr(club, deed)(*handed)
            states.append(seen(club))
        for turn in range(2):
            self.refused(club, NothingLeft, "again")
            for state in states[-2::-1]:
                club.back()
                self.assertEqual(seen(club), state)
            self.refused(club, NothingLeft, "back")
            for state in states[1:]:
                club.again()
                self.assertEqual(seen(club), state)
        self.refused(club, NothingLeft, "again")

    def test_nothing_left_at_first(self):
        self.refused(Club(), NothingLeft, "back")
        self.refused(Club(), NothingLeft, "again")
        self.refused(club_of(ANN), NothingLeft, "again")

    def test_a_new_deed_ends_what_could_be_done_again(self):
        deeds = [("come", BOB), ("go", "ann"), ("weigh", "ann", 99), ("tell", C_D), ("strike", 0)]
        for deed, *handed in deeds:
            club = club_of(ANN, A_B, CY, DEE)
            club.back()
            club.back()
            getattr(club, deed)(*handed)
            self.refused(club, NothingLeft, "again")
            # And what is taken back then is the new one, with what was before it.
            club.back()
            self.assertEqual(seen(club), ([ANN], [(0, A_B)], [], 1))
            club.again()
            self.refused(club, NothingLeft, "again")

    def test_a_refused_one_does_not(self):
        club = club_of(ANN, A_B, CY, DEE)
        club.back()
        club.back()
        self.refused(club, NoRower, "come", None)
        self.refused(club, Twice, "come", ANN)
        self.refused(club, NoName, "go", "zoe")
        self.refused(club, NoName, "weigh", "zoe", 1)
        self.refused(club, NoRower, "weigh", "ann", 0)
        self.refused(club, NoPiece, "tell", 5)
        self.refused(club, NoNumber, "strike", 1)
        club.again()
        club.again()
        self.assertEqual(club.rowers(), [ANN, CY, DEE])
        self.refused(club, NothingLeft, "again")

    def test_nor_does_what_is_asked(self):
        club = club_of(ANN, BOB, A_B)
        club.back()
        club.rowers(), club.pieces(), club.trials(), club.verdict("a", "b"), club.seated(PAIR, 5), len(club)
        self.assertEqual(club, club_of(ANN, BOB))
        club.again()
        self.assertEqual(club, club_of(ANN, BOB, A_B))

    def test_taken_back_while_full(self):
        club = club_of(*crew(8))
        club.go("a")
        club.back()
        self.refused(club, TooMany, "come", ANN, many=9)
        club.again()
        club.come(ANN)
        self.refused(club, TooMany, "come", BOB, many=9)


def plain_trials(club):
    """The club's trials, from who left and who came, of each two pieces."""
    found = []
    for one, piece in club.pieces():
        for other, later in club.pieces():
            out, into = set(piece[0]) - set(later[0]), set(later[0]) - set(piece[0])
            back, forth = set(piece[1]) - set(later[1]), set(later[1]) - set(piece[1])
            if one < other and len(out) == len(into) == 1 and (out, into) == (forth, back):
                more = Fraction(piece[3] - piece[2], piece[4]) - Fraction(later[3] - later[2], later[4])
                names = sorted(out) + sorted(into) if more > 0 else sorted(into) + sorted(out)
                names = sorted(names) if more == 0 else names
                found.append((one, other, (names[0], names[1], abs(more).as_integer_ratio())))
    return sorted(found)


class Trials(Case):
    def test_of_two_pieces(self):
        self.assertEqual(club_of(A_B, B_A).trials(), [(0, 1, ("a", "b", (1, 2)))])
        self.assertEqual(club_of(B_A, A_B).trials(), [(0, 1, ("a", "b", (1, 2)))])
        self.assertEqual(club_of(A_B, A_B).trials(), [])
        self.assertEqual(club_of(A_B, C_D).trials(), [])
        self.assertEqual(club_of(A_B).trials(), [])

    def test_rising_by_their_numbers(self):
        club = club_of(C_D, A_B, B_A, D_C, A_B)
        right = [(0, 3, ("c", "d", (2, 3))), (1, 2, ("a", "b", (1, 2))), (2, 4, ("a", "b", (1, 2)))]
        self.assertEqual(club.trials(), right)

    def test_by_nought(self):
        club = club_of((("b",), ("a",), 5, 6, 7), (("a",), ("b",), 5, 6, 7))
        self.assertEqual(club.trials(), [(0, 1, ("a", "b", (0, 1)))])

    def test_numbers_above_nine(self):
        club = Club()
        for turn in range(5):
            for piece in (A_B, C_D, B_A):
                club.tell(piece)
        numbers = [(one, other) for one, other, trial in club.trials()]
        self.assertEqual(numbers, sorted(numbers))
        self.assertEqual(len(numbers), 25)
        self.assertIn((0, 11), numbers)
        self.assertIn((11, 12), numbers)

    def test_struck_out_changes_just_what_hangs_on_it(self):
        club = club_of(A_B, B_A, C_D, A_B, D_C, B_A)
        for number in range(6):
            before = club.trials()
            club.strike(number)
            self.assertEqual(club.trials(), [told for told in before if number not in told[:2]])
            club.back()
            self.assertEqual(club.trials(), before)

    def test_told_late_changes_just_what_hangs_on_it(self):
        club = club_of(A_B, B_A, C_D, A_B)
        before = club.trials()
        number = club.tell(B_A)
        self.assertEqual([told for told in club.trials() if number not in told[:2]], before)
        self.assertEqual([told[:2] for told in club.trials() if number in told[:2]], [(0, 4), (3, 4)])

    def test_more_than_forty(self):
        club = Club()
        for turn in range(20):
            club.tell(A_B)
            club.tell(B_A)
        self.assertEqual(len(club.trials()), 400)
        self.assertEqual(club.trials(), plain_trials(club))
        self.assertEqual(club.trials()[0], (0, 1, ("a", "b", (1, 2))))
        self.assertEqual(club.trials()[-1], (38, 39, ("a", "b", (1, 2))))

    def test_rowers_change_nothing(self):
        club = club_of(("a", "port", 1), A_B, B_A, ("b", "port", 2))
        before = club.trials()
        club.go("a")
        club.weigh("b", 77)
        self.assertEqual(club.trials(), before)


class Verdict(Case):
    def test_none(self):
        self.assertEqual(Club().verdict("a", "b"), "open")
        self.assertEqual(club_of(ANN, BOB).verdict("ann", "bob"), "open")

    def test_each(self):
        level = (("b",), ("a",), 10, 12, 5)
        less = (("b",), ("a",), 1, 9, 1)
        self.assertEqual(club_of(A_B, B_A).verdict("a", "b"), "more")
        self.assertEqual(club_of(A_B, B_A).verdict("b", "a"), "less")
        self.assertEqual(club_of(A_B, less).verdict("a", "b"), "less")
        self.assertEqual(club_of(A_B, level).verdict("a", "b"), "alike")
        self.assertEqual(club_of(A_B, level, less).verdict("a", "b"), "ring")
        self.assertEqual(club_of(A_B, B_A).verdict("a", "c"), "open")

    def test_by_several(self):
        b_c, c_b = (("b",), ("c",), 7, 9, 3), (("c",), ("b",), 7, 7, 3)
        club = club_of(A_B, b_c, c_b, B_A)
        self.assertEqual(club.verdict("a", "c"), "more")
        self.assertEqual(club.verdict("c", "a"), "less")
        club.strike(3)
        self.assertEqual(club.verdict("a", "c"), "open")
        self.assertEqual(club.verdict("b", "c"), "more")
        club.back()
        self.assertEqual(club.verdict("a", "c"), "more")
        club.tell((("c",), ("a",), 1, 9, 9))
        self.assertEqual(club.verdict("a", "c"), "more")
        club.tell((("a",), ("c",), 9, 1, 9))
        self.assertEqual(club.verdict("a", "c"), "ring")

    def test_by_the_first_forty_alone(self):
        # Three times thirteen trials of a and b, and the one of c and d is the fortieth.
        club = Club()
        for turn in range(3):
            club.tell(A_B)
        for turn in range(13):
            club.tell(B_A)
        club.tell(C_D)
        club.tell(D_C)
        self.assertEqual(len(club.trials()), 40)
        self.assertEqual(club.verdict("c", "d"), "more")
        # Told late, this makes it the first of all behind the fortieth.
        club.tell(B_A)
        self.assertEqual(len(club.trials()), 43)
        self.assertEqual(club.verdict("c", "d"), "open")
        self.assertEqual(club.verdict("a", "b"), "more")
        club.strike(0)
        self.assertEqual(club.verdict("c", "d"), "more")
        club.back()
        self.assertEqual(club.verdict("c", "d"), "open")
        club.back()
        self.assertEqual(club.verdict("c", "d"), "more")

    def test_the_forty_first_is_none_of_them(self):
        club = Club()
        for turn in range(5):
            club.tell(A_B)
        for turn in range(8):
            club.tell(B_A)
        club.tell(C_D)
        club.tell(D_C)
        self.assertEqual(len(club.trials()), 41)
        self.assertEqual(club.trials()[40], (13, 14, ("c", "d", (2, 3))))
        self.assertEqual(club.verdict("c", "d"), "open")

    def test_the_first_are_those_of_the_least_numbers(self):
        club = club_of(C_D, D_C)
        for turn in range(19):
            club.tell(A_B)
            club.tell(B_A)
        self.assertEqual(len(club.trials()), 1 + 19 * 19)
        self.assertEqual(club.verdict("c", "d"), "more")


class Seated(Case):
    def test_no_rowers(self):
        self.refused(Club(), NoRower, "seated", PAIR)
        self.refused(club_of(A_B, B_A), NoRower, "seated", FOUR, 5)
        club = club_of(ANN)
        club.go("ann")
        self.refused(club, NoRower, "seated", PAIR, 0)

    def test_each_answer(self):
        club = club_of(CY, BOB, ANN)
        self.assertEqual(club.seated(PAIR, 10), ("seating", ("ann", "bob"), 10))
        self.assertEqual(club.seated(PAIR, 9), ("trim", 10, ("ann", "bob")))
        self.assertEqual(club.seated(FOUR, 9), ("seats", "both", 4, 3))
        self.assertEqual(club_of(ANN).seated(PAIR, 9), ("seats", "starboard", 1, 0))

    def test_the_trim_left_out(self):
        club = club_of(ANN, BOB)
        self.assertEqual(club.seated(PAIR), ("trim", 10, ("ann", "bob")))
        self.assertEqual(club.seated(PAIR), club.seated(PAIR, 0))
        club.weigh("bob", 71)
        self.assertEqual(club.seated(PAIR), ("trim", 1, ("ann", "bob")))
        club.weigh("bob", 70)
        self.assertEqual(club.seated(PAIR), ("seating", ("ann", "bob"), 0))

    def test_as_the_rowers_are(self):
        club = club_of(CY, BOB, ANN)
        for deed in (("come", DEE), ("weigh", "cy", 99), ("go", "ann"), ("back",), ("back",), ("again",)):
            getattr(club, deed[0])(*deed[1:])
            for rig in (PAIR, PAIR[::-1], FOUR, FOUR[::-1], EIGHT):
                for most in (0, 5, 30, 10 ** 7):
                    self.assertEqual(club.seated(rig, most), seated(club.rowers(), rig, most))


class LenAndEqual(Case):
    def test_len(self):
        club = Club()
        for many, rower in enumerate(crew(8)):
            self.assertEqual(len(club), many)
            club.come(rower)
        self.assertEqual(len(club), 8)
        club.tell(A_B)
        self.assertEqual(len(club), 8)
        club.go("c")
        self.assertEqual(len(club), 7)
        club.back()
        self.assertEqual(len(club), 8)

    def equal(self, one, other):
        self.assertIs(one == other, True)
        self.assertIs(other == one, True)
        self.assertIs(one != other, False)

    def unequal(self, one, other):
        self.assertIs(one == other, False)
        self.assertIs(other == one, False)
        self.assertIs(one != other, True)

    def test_equal(self):
        self.equal(Club(), Club())
        self.equal(club_of(ANN, BOB), club_of(BOB, ANN))
        self.equal(club_of(ANN, A_B, B_A), club_of(A_B, B_A, ANN))
        club = club_of(ANN)
        self.equal(club, club)

    def test_equal_on_other_ways(self):
        club = club_of(BOB, ("ann", "port", 1), A_B, CY)
        club.go("cy")
        club.weigh("ann", 70)
        self.equal(club, club_of(ANN, BOB, A_B))
        club.back()
        self.unequal(club, club_of(ANN, BOB, A_B))
        club.again()
        self.equal(club, club_of(ANN, BOB, A_B))
        # What number the next piece will have isn't asked.
        club.tell(B_A)
        club.strike(1)
        self.equal(club, club_of(ANN, BOB, A_B))

    def test_unequal(self):
        self.unequal(Club(), club_of(ANN))
        self.unequal(Club(), club_of(A_B))
        self.unequal(club_of(ANN), club_of(BOB))
        self.unequal(club_of(ANN), club_of(("ann", "port", 71)))
        self.unequal(club_of(ANN), club_of(("ann", "both", 70)))
        self.unequal(club_of(A_B, B_A), club_of(B_A, A_B))
        self.unequal(club_of(A_B), club_of(A_B, A_B))

    def test_other_numbers(self):
        club = club_of(B_A, A_B)
        club.strike(0)
        self.unequal(club, club_of(A_B))
        other = club_of(C_D, A_B)
        other.strike(0)
        self.equal(club, other)

    def test_other_things(self):
        for club in (Club(), club_of(ANN, A_B)):
            for thing in THINGS + [seen(club), club.rowers(), club.pieces(), object(), {}]:
                self.unequal(club, thing)


class Drawn(Case):
    """Clubs that go their drawn ways, held against clubs in which only the deeds that are left were ever done."""

    ROWERS = [(name, sides, 50) for name in "abcdefghij" for sides in ("port", "both")]
    CREWS = [("a",), ("b",), ("c",), ("a", "b"), ("a", "c"), ("b", "d"), ("c", "d"), ("b", "c"), ("a", "d")]

    def drawn_deed(self, draw):
        kind = draw.choice("come come come go weigh tell tell tell strike back back again".split())
        if kind == "come":
            return (kind, draw.choice(self.ROWERS + [None]))
        if kind == "go":
            return (kind, draw.choice("abcdefghijk"))
        if kind == "weigh":
            return (kind, draw.choice("abcdefghijk"), draw.choice([0, 1, 50, 70, 10 ** 6, None]))
        if kind == "tell":
            crews = draw.sample(self.CREWS, 2)
            return (kind, tuple(crews) + tuple(draw.randint(1, 3) for part in range(3)))
        if kind == "strike":
            return (kind, draw.randint(-1, 12))
        return (kind,)

    def right(self, done, undone, deed):
        """The refusal that is due, or None, from the deeds that are left alone."""
        names, standing, told = {}, set(), 0
        for kind, *handed in done:
            if kind == "come":
                names[handed[0][0]] = True
            elif kind == "go":
                del names[handed[0]]
            elif kind == "tell":
                standing.add(told)
                told += 1
            elif kind == "strike":
                standing.discard(handed[0])
        kind, *handed = deed
        if kind == "come":
            if handed[0] is None:
                return NoRower
            return Twice if handed[0][0] in names else TooMany if len(names) == 8 else None
        if kind in ("go", "weigh") and handed[0] not in names:
            return NoName
        if kind == "weigh":
            return NoRower if handed[1] in (0, None) else None
        if kind == "tell":
            return NoPiece if not is_piece(handed[0]) else TooMany if len(standing) == 40 else None
        if kind == "strike":
            return None if handed[0] in standing else NoNumber
        return NothingLeft if kind == "back" and not done or kind == "again" and not undone else None

    def test_drawn(self):
        refusals = set()
        for seed in range(80):
            draw = Random(seed)
            club, done, undone = Club(), [], []
            for turn in range(120):
                deed = self.drawn_deed(draw)
                right = self.right(done, undone, deed)
                refusals.add(right)
                if right is not None:
                    with self.assertRaises(right):
                        getattr(club, deed[0])(*deed[1:])
                    continue
                getattr(club, deed[0])(*deed[1:])
                if deed[0] == "back":
                    undone.append(done.pop())
                elif deed[0] == "again":
                    done.append(undone.pop())
                else:
                    done.append(deed)
                    undone = []
            fresh = Club()
            for deed in done:
                getattr(fresh, deed[0])(*deed[1:])
            self.assertEqual(seen(club), seen(fresh), seed)
            self.assertEqual(club, fresh)
            self.assertEqual(club.trials(), plain_trials(club))
            trials = [trial for one, other, trial in club.trials()][:40]
            for one, other in (("a", "b"), ("c", "a"), ("d", "b")):
                self.assertEqual(club.verdict(one, other), plain_verdict(trials, one, other))
            self.assertEqual(club.tell(A_B), len([deed for deed in done if deed[0] == "tell"]))
        self.assertEqual(refusals, {None, NoRower, Twice, TooMany, NoName, NoPiece, NoNumber, NothingLeft})


if __name__ == "__main__":
    unittest.main()
