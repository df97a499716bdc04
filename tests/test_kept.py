"""What is handed in stays as it is, what is told is the asker's own, and the same each time."""

import unittest
from copy import deepcopy

from rowtrim.clubs import Club
from rowtrim.desk import Desk
from rowtrim.errors import NoCrew, NoText, NoTrial, RowError, TooMany
from rowtrim.evened import evened
from rowtrim.pieces import is_piece, margin, trial_of
from rowtrim.rowers import are_rowers, arm_of, is_rig, is_rower, is_seating, trim_of
from rowtrim.seatings import how_many, reseated, seated, seatings
from rowtrim.texts import read_piece, read_rower, show_fraction, show_piece, show_rower
from rowtrim.trials import best_order, further, is_ring, ring, verdict
from tests.helper import EIGHT, FOUR, PAIR, THINGS

CREW = [("dee", "port", 75), ("ann", "port", 70), ("eve", "both", 50), ("bob", "starboard", 80), ("cy", "both", 60)]
SEATING = ("ann", "bob", "dee", "cy")
ABSENT = ["eve", "zoe", "bob", "ann"]
PIECE = (("ann", "cy"), ("bob", "dee"), 100, 104, 500)
AGAIN = (("bob", "cy"), ("ann", "dee"), 102, 100, 500)
ROUND = [("dee", "cy", (1, 2)), ("cy", "bob", (0, 1)), ("bob", "ann", (2, 3)), ("ann", "cy", (3, 1))]
LINE = ROUND[:3]
PAIRS = [("zoe", "ann"), ("yan", "zoe"), ("ann", "bob")]

# What stands here is never handed in itself, but as a copy: else the first call could hide what the next ones do.
CALLS = [
    (are_rowers, (CREW,)), (are_rowers, (list(SEATING),)), (is_rower, (list(CREW[0]),)), (is_rig, (list(FOUR),)),
    (is_seating, (CREW, FOUR, SEATING)), (is_seating, (CREW, FOUR, list(SEATING))),
    (arm_of, (FOUR, 2)), (trim_of, (CREW, FOUR, SEATING)),
    (how_many, (CREW, FOUR)), (seatings, (CREW, FOUR)), (seatings, (CREW[:2], PAIR)),
    (seated, (CREW, FOUR)), (seated, (CREW, FOUR, 0)), (seated, (CREW, FOUR, 500)), (seated, (CREW[:1], FOUR, 5)),
    (reseated, (CREW, FOUR, SEATING, [])), (reseated, (CREW, FOUR, SEATING, ABSENT)),
    (reseated, (CREW, FOUR, SEATING, ["dee"])),
    (evened, (CREW[:2],)), (evened, (CREW[:4],)), (evened, (CREW[1:],)),
    (is_piece, (PIECE,)), (is_piece, (list(PIECE),)), (is_piece, ((["bob", "ann"], ["dee", "cy"], 1, 2, 3),)),
    (margin, (PIECE,)), (margin, (AGAIN,)), (trial_of, (PIECE, AGAIN)), (trial_of, (AGAIN, PIECE)),
    (verdict, (ROUND, "ann", "bob")), (verdict, (LINE, "ann", "dee")), (verdict, ([], "ann", "dee")),
    (ring, (ROUND,)), (ring, (LINE,)), (ring, ([],)),
    (is_ring, (ROUND, [2, 3, 1])), (is_ring, (ROUND, [1, 2, 3])), (is_ring, (ROUND, [9, 0])), (is_ring, (ROUND, [])),
    (best_order, (ROUND, ["dee", "bob", "cy", "ann"])), (best_order, (LINE, ["zoe", "cy", "dee"])),
    (further, (LINE, PAIRS, "ann", "yan")), (further, (LINE, PAIRS, "dee", "ann")), (further, (LINE, [], "ann", "yan")),
    (show_rower, (CREW[0],)), (show_fraction, ((-1, 2),)), (show_piece, (PIECE,)),
    (read_rower, ("ann:port:70",)), (read_piece, ("a+b c+d 1 2 3",)),
]


def full_club():
    """A club with rowers, pieces and trials, and with a deed that can be done again."""
    club = Club()
    for rower in CREW:
        club.come(rower)
    for piece in (PIECE, AGAIN, PIECE):
        club.tell(piece)
    club.go("eve")
    club.back()
    return club


def answers_of(club):
    """All that a club tells, each list as it is told."""
    told = [club.rowers(), club.pieces(), club.trials(), len(club)]
    return told + [club.verdict("ann", "bob"), club.seated(FOUR), club.seated(PAIR, 50)]


class Kept(unittest.TestCase):
    def test_what_is_handed_in_is_not_changed(self):
        for call, handed in CALLS:
            with self.subTest(call=call.__name__, handed=handed):
                copy = deepcopy(handed)
                call(*copy)
                self.assertEqual(copy, handed)

    def test_nor_where_it_is_refused(self):
        crew = [(name, "both", 10) for name in "hgfedcba"]
        before = list(crew)
        with self.assertRaises(TooMany):
            seatings(crew, EIGHT)
        self.assertEqual(crew, before)
        odd = list(CREW)
        with self.assertRaises(NoCrew):
            evened(odd)
        self.assertEqual(odd, CREW)
        one, other = deepcopy(PIECE), deepcopy(PIECE)
        with self.assertRaises(NoTrial):
            trial_of(one, other)
        self.assertEqual((one, other), (PIECE, PIECE))

    def test_nor_anything(self):
        for thing in THINGS:
            copy = deepcopy(thing)
            is_rower(copy), are_rowers(copy), is_rig(copy), is_seating(list(CREW), FOUR, copy), is_piece(copy)
            self.assertEqual(copy, thing)

    def test_nor_anything_as_a_part_of_a_piece(self):
        for thing in THINGS:
            for at in range(5):
                handed = [PIECE[:at] + (deepcopy(thing),) + PIECE[at + 1:] for turn in range(2)]
                is_piece(handed[0])
                self.assertEqual(handed[0], handed[1])

    def test_refused_once_refused_again(self):
        for call, handed, refusal in ((evened, (CREW,), NoCrew), (trial_of, (PIECE, PIECE), NoTrial)):
            copy = deepcopy(handed)
            for turn in range(2):
                with self.assertRaises(refusal):
                    call(*copy)

    def test_asked_again_the_answer_is_the_same(self):
        for call, handed in CALLS:
            with self.subTest(call=call.__name__, handed=handed):
                copy = deepcopy(handed)
                self.assertEqual(call(*copy), call(*copy))

    def test_each_told_list_is_a_new_one(self):
        for crew, rig in ((CREW, FOUR), (CREW[:2], PAIR)):
            told = seatings(list(crew), rig)
            right = list(told)
            again = seatings(list(crew), rig)
            self.assertIsNot(told, again)
            told.append("mine")
            del told[0]
            self.assertEqual(again, right)
            self.assertEqual(seatings(list(crew), rig), right)

    def test_nothing_handed_in_is_kept(self):
        crew = list(CREW)
        first = seatings(crew, FOUR)
        del crew[2]
        self.assertNotEqual(seatings(crew, FOUR), first)
        crew.insert(0, CREW[2])
        self.assertEqual(seatings(crew, FOUR), first)
        even = CREW[:4]
        told = evened(even)
        even[0] = ("dee", "port", 175)
        self.assertNotEqual(evened(even), told)
        even[0] = CREW[0]
        self.assertEqual(evened(even), told)

    def test_lists_that_trials_tell_are_the_askers_own(self):
        trials, names = list(ROUND), ["dee", "cy", "bob", "ann"]
        found, order = ring(trials), best_order(trials, names)[1]
        self.assertIsNot(order, names)
        right = (list(found), list(order))
        for told in (found, order):
            told.append("mine")
            del told[0]
        self.assertEqual((trials, names), (ROUND, ["dee", "cy", "bob", "ann"]))
        self.assertEqual((ring(trials), best_order(trials, names)[1]), right)
        alone = ["ann"]
        best_order([], alone)[1].append("mine")
        self.assertEqual(alone, ["ann"])

    def test_trials_changed_by_the_asker(self):
        trials, pairs = list(LINE), list(PAIRS)
        self.assertEqual((verdict(trials, "ann", "dee"), further(trials, pairs, "ann", "yan")), ("less", 2))
        trials.append(ROUND[3])
        del pairs[0]
        self.assertEqual((verdict(trials, "ann", "cy"), further(trials, pairs, "ann", "yan")), ("ring", None))

    def test_refused_texts(self):
        for read in (read_rower, read_piece):
            for thing in THINGS:
                copy = deepcopy(thing)
                for turn in range(2):
                    with self.assertRaises(NoText):
                        read(copy)
                self.assertEqual(copy, thing)

    def test_by_their_places(self):
        self.assertEqual(seated(list(CREW), FOUR, 7), seated(rowers=list(CREW), rig=FOUR, most=7))


class KeptByClubs(unittest.TestCase):
    def test_what_is_handed_to_a_club_is_not_changed(self):
        club = full_club()
        deeds = (club.come, club.go, lambda thing: club.weigh("ann", thing), club.tell)
        for thing in THINGS + [PIECE, CREW[0], list(PIECE), [list(CREW[0])]]:
            for deed in deeds:
                copy = deepcopy(thing)
                if deed == club.go and not isinstance(thing, str):
                    continue
                try:
                    deed(copy)
                    club.back()
                except RowError:
                    pass
                self.assertEqual(copy, thing)

    def test_lists_that_a_club_tells_are_the_askers_own(self):
        club = full_club()
        right = answers_of(club)
        for ask in (club.rowers, club.pieces, club.trials):
            self.assertIsNot(ask(), ask())
            told = ask()
            told.append("mine")
            del told[0]
            told.reverse()
            self.assertEqual(answers_of(club), right)
        club.back()
        club.again()
        self.assertEqual(answers_of(club), right)

    def test_lists_told_before_stay_as_they_were(self):
        club = full_club()
        told = (club.rowers(), club.pieces(), club.trials())
        right = deepcopy(told)
        club.go("ann")
        club.strike(0)
        club.tell(AGAIN)
        club.weigh("bob", 1)
        club.back()
        self.assertEqual(told, right)

    def test_asked_again_the_answer_is_the_same(self):
        club, desk = full_club(), Desk()
        self.assertEqual(answers_of(club), answers_of(club))
        for row in ("come ann:port:70", "piece a b 1 2 3", "piece b a 1 1 1"):
            desk.say(row)
        for row in ("crew", "trials", "who a b", "seat ps 0"):
            self.assertEqual(desk.say(row), desk.say(row))

    def test_two_clubs_do_not_touch_one_another(self):
        one, other = full_club(), full_club()
        right = answers_of(other)
        one.come(("zoe", "port", 1))
        one.go("ann")
        one.weigh("bob", 1)
        one.strike(1)
        one.tell(AGAIN)
        self.assertEqual(answers_of(other), right)
        other.again()
        other.back()
        for turn in range(5):
            one.back()
        self.assertEqual(one, other)
        self.assertEqual((Club().rowers(), Club().pieces(), len(Club())), ([], [], 0))

    def test_two_desks_do_not_touch_one_another(self):
        one, other = Desk(), Desk()
        one.say("come ann:port:70")
        self.assertEqual((one.say("crew"), other.say("crew")), ("ann:port:70", "none"))
        self.assertEqual([other.say("piece a b 1 2 3"), one.say("piece b a 1 2 3")], ["0", "0"])
        self.assertEqual((one.say("trials"), other.say("trials")), ("none", "none"))
        one.say("back")
        self.assertEqual(other.say("piece b a 1 1 1"), "1")
        self.assertEqual((one.say("trials"), other.say("trials")), ("none", "a>b:1/3"))


if __name__ == "__main__":
    unittest.main()
