"""What is handed in stays as it is, what is told is the asker's own, and the same each time."""

import unittest
from copy import deepcopy

from rowtrim.errors import NoCrew, NoTrial, TooMany
from rowtrim.evened import evened
from rowtrim.pieces import is_piece, margin, trial_of
from rowtrim.rowers import are_rowers, arm_of, is_rig, is_rower, is_seating, trim_of
from rowtrim.seatings import how_many, reseated, seated, seatings
from tests.helper import EIGHT, FOUR, PAIR, THINGS

CREW = [("dee", "port", 75), ("ann", "port", 70), ("eve", "both", 50), ("bob", "starboard", 80), ("cy", "both", 60)]
SEATING = ("ann", "bob", "dee", "cy")
ABSENT = ["eve", "zoe", "bob", "ann"]
PIECE = (("ann", "cy"), ("bob", "dee"), 100, 104, 500)
AGAIN = (("bob", "cy"), ("ann", "dee"), 102, 100, 500)

# What stands here is never handed in itself, but as a copy: else the first call could hide what the next ones do.
CALLS = [
    (are_rowers, (CREW,)), (are_rowers, (list(SEATING),)), (is_rower, (list(CREW[0]),)), (is_rig, (list(FOUR),)),
    (is_seating, (CREW, FOUR, SEATING)), (is_seating, (CREW, FOUR, list(SEATING))),
    (arm_of, (FOUR, 2)), (trim_of, (CREW, FOUR, SEATING)),
    (how_many, (CREW, FOUR)), (seatings, (CREW, FOUR)), (seatings, (CREW[:2], PAIR)),
    (seated, (CREW, FOUR)), (seated, (CREW, FOUR, 0)), (seated, (CREW, FOUR, 500)), (seated, (CREW[:1], FOUR, 5)),
    (reseated, (CREW, FOUR, SEATING, [])), (reseated, (CREW, FOUR, SEATING, ABSENT)),
    (reseated, (CREW, FOUR, SEATING, ["dee"])),
    (evened, (CREW[:2],)), (evened, (CREW[:4],)), (evened, (CREW[1:],)),
    (is_piece, (PIECE,)), (is_piece, (list(PIECE),)), (is_piece, ((["bob", "ann"], ["dee", "cy"], 1, 2, 3),)),
    (margin, (PIECE,)), (margin, (AGAIN,)), (trial_of, (PIECE, AGAIN)), (trial_of, (AGAIN, PIECE)),
]


class Kept(unittest.TestCase):
    def test_what_is_handed_in_is_not_changed(self):
        for call, handed in CALLS:
            with self.subTest(call=call.__name__, handed=handed):
                copy = deepcopy(handed)
                call(*copy)
                self.assertEqual(copy, handed)

    def test_nor_where_it_is_refused(self):
        crew = [(name, "both", 10) for name in "hgfedcba"]
        before = list(crew)
        with self.assertRaises(TooMany):
            seatings(crew, EIGHT)
        self.assertEqual(crew, before)
        odd = list(CREW)
        with self.assertRaises(NoCrew):
            evened(odd)
        self.assertEqual(odd, CREW)
        one, other = deepcopy(PIECE), deepcopy(PIECE)
        with self.assertRaises(NoTrial):
            trial_of(one, other)
        self.assertEqual((one, other), (PIECE, PIECE))

    def test_nor_anything(self):
        for thing in THINGS:
            copy = deepcopy(thing)
            is_rower(copy), are_rowers(copy), is_rig(copy), is_seating(list(CREW), FOUR, copy), is_piece(copy)
            self.assertEqual(copy, thing)

    def test_nor_anything_as_a_part_of_a_piece(self):
        for thing in THINGS:
            for at in range(5):
                handed = [PIECE[:at] + (deepcopy(thing),) + PIECE[at + 1:] for turn in range(2)]
                is_piece(handed[0])
                self.assertEqual(handed[0], handed[1])

    def test_refused_once_refused_again(self):
        for call, handed, refusal in ((evened, (CREW,), NoCrew), (trial_of, (PIECE, PIECE), NoTrial)):
            copy = deepcopy(handed)
            for turn in range(2):
                with self.assertRaises(refusal):
                    call(*copy)

    def test_asked_again_the_answer_is_the_same(self):
        for call, handed in CALLS:
            with self.subTest(call=call.__name__, handed=handed):
                copy = deepcopy(handed)
                self.assertEqual(call(*copy), call(*copy))

    def test_each_told_list_is_a_new_one(self):
        for crew, rig in ((CREW, FOUR), (CREW[:2], PAIR)):
            told = seatings(list(crew), rig)
            right = list(told)
            again = seatings(list(crew), rig)
            self.assertIsNot(told, again)
            told.append("mine")
            del told[0]
            self.assertEqual(again, right)
            self.assertEqual(seatings(list(crew), rig), right)

    def test_nothing_handed_in_is_kept(self):
        crew = list(CREW)
        first = seatings(crew, FOUR)
        del crew[2]
        self.assertNotEqual(seatings(crew, FOUR), first)
        crew.insert(0, CREW[2])
        self.assertEqual(seatings(crew, FOUR), first)
        even = CREW[:4]
        told = evened(even)
        even[0] = ("dee", "port", 175)
        self.assertNotEqual(evened(even), told)
        even[0] = CREW[0]
        self.assertEqual(evened(even), told)

    def test_by_their_places(self):
        self.assertEqual(seated(list(CREW), FOUR, 7), seated(rowers=list(CREW), rig=FOUR, most=7))


if __name__ == "__main__":
    unittest.main()
