import unittest
from random import Random

from rowtrim.desk import Desk
from rowtrim.errors import NoName, NoNumber, NoRow, NoRower, NothingLeft, RowError, TooMany, Twice

FIRST = ["come cy:both:60", "come ann:port:70", "come bob:starboard:80"]
A_B, B_A = "piece a b 10 12 5", "piece b a 11 10 10"
# Every row that can be, each of its words right.
ROWS = [
    "come zoe:port:70", "go ann", "weigh ann 77", "piece a+b c+d 1 2 3", "strike 0", "back", "again",
    "crew", "trials", "who ann bob", "seat ps 5",
]


def desk_of(*rows):
    desk = Desk()
    for row in rows:
        desk.say(row)
    return desk


def seen(desk):
    """All that a desk answers where it is asked."""
    asked = [desk.say("crew"), desk.say("trials")]
    for names in ("a b", "b c", "ann bob"):
        asked.append(desk.say(f"who {names}"))
    return asked


def whole_story(desk):
    """What a desk answers in each of its states; it stands behind this as it stood before."""
    ahead = []
    while True:
        try:
            desk.say("again")
        except NothingLeft:
            break
        ahead.append(seen(desk))
    behind = [seen(desk)]
    while True:
        try:
            desk.say("back")
        except NothingLeft:
            break
        behind.append(seen(desk))
    for turn in range(len(behind) - 1 - len(ahead)):
        desk.say("again")
    return (ahead, behind)


class Case(unittest.TestCase):
    def answers(self, desk, *told):
        for row, answer in told:
            with self.subTest(row):
                self.assertEqual(desk.say(row), answer)

    def refused(self, desk, refusal, *rows, many=None):
        """Each row is refused just so, and changes nothing."""
        before = whole_story(desk)
        for row in rows:
            with self.subTest(row):
                with self.assertRaises(RowError) as caught:
                    desk.say(row)
                self.assertIs(type(caught.exception), refusal)
                if many is not None:
                    self.assertEqual(caught.exception.many, many)
                self.assertEqual(whole_story(desk), before)


class Rows(Case):
    def test_at_first(self):
        self.answers(Desk(), ("crew", "none"), ("trials", "none"), ("who a b", "open"))

    def test_rowers(self):
        self.answers(
            Desk(), ("come cy:both:60", "ok"), ("crew", "cy:both:60"), ("come ann:port:1", "ok"),
            ("come zzzzzzzz:starboard:1000000", "ok"), ("crew", "ann:port:1 cy:both:60 zzzzzzzz:starboard:1000000"),
            ("weigh ann 1000000", "ok"), ("weigh cy 1", "ok"), ("go zzzzzzzz", "ok"),
            ("crew", "ann:port:1000000 cy:both:1"), ("go ann", "ok"), ("go cy", "ok"), ("crew", "none"),
        )

    def test_pieces(self):
        self.answers(
            Desk(), (A_B, "0"), ("trials", "none"), (B_A, "1"), ("trials", "a>b:1/2"),
            ("piece b a 1 1 1", "2"), ("trials", "a>b:1/2 a>b:2/5"),
            ("strike 1", "ok"), ("trials", "a>b:2/5"), ("strike 2", "ok"), ("trials", "none"),
            ("piece b a 1000000000 1 1000000000", "3"), ("trials", "a>b:1399999999/1000000000"),
        )

    def test_trials_by_whole_numbers_and_by_nought(self):
        self.answers(Desk(), ("piece b a 7 7 3", "0"), ("piece a b 9 9 8", "1"), ("trials", "a>b:0"))
        self.answers(Desk(), ("piece b a 1 4 1", "0"), ("piece a b 5 1 1", "1"), ("trials", "b>a:7"))

    def test_trials_of_greater_crews(self):
        desk = desk_of("piece ann+cy bob+dee 100 104 500", "piece bob+cy ann+dee 102 100 500")
        self.answers(desk, ("trials", "ann>bob:3/250"))

    def test_all_trials_though_more_than_forty(self):
        desk = desk_of(*[A_B, B_A] * 7)
        self.answers(desk, ("trials", " ".join(["a>b:1/2"] * 49)))

    def test_numbers_go_on(self):
        desk = Desk()
        for number in range(12):
            self.answers(desk, (A_B, str(number)))
        self.answers(desk, ("strike 11", "ok"), (B_A, "12"), ("back", "ok"), (B_A, "12"))

    def test_taken_back_and_done_again(self):
        self.answers(
            Desk(), ("come ann:port:70", "ok"), ("weigh ann 71", "ok"), (A_B, "0"), (B_A, "1"), ("back", "ok"),
            ("trials", "none"), ("again", "ok"), ("trials", "a>b:1/2"), ("back", "ok"), ("back", "ok"), ("back", "ok"),
            ("crew", "ann:port:70"), ("back", "ok"), ("crew", "none"), ("again", "ok"), ("again", "ok"),
            ("crew", "ann:port:71"), (B_A, "0"), ("trials", "none"),
        )

    def test_who(self):
        desk = desk_of(A_B, B_A, "piece b c 7 7 1", "piece c b 7 7 1", "piece c d 9 8 1", "piece d c 9 8 1")
        self.answers(desk, ("who a b", "more"), ("who b a", "less"), ("who b c", "alike"), ("who c a", "less"))
        self.answers(desk, ("who x y", "open"), ("who a x", "open"), ("who d a", "less"))
        desk.say("piece b a 1 9 1")
        self.answers(desk, ("who a b", "ring"), ("who b a", "ring"), ("who zzzzzzzz a", "open"))

    def test_who_needs_no_rower(self):
        self.answers(desk_of(*FIRST), ("who ann bob", "open"), ("who ann zoe", "open"))

    def test_seat(self):
        desk = desk_of(*FIRST)
        self.answers(
            desk, ("seat ps 10", "seating ann bob"), ("seat ps 9", "trim 10"), ("seat ps 0", "trim 10"),
            ("seat sp 10", "seating bob ann"), ("seat ps 999999999", "seating ann bob"), ("seat psps 5", "seats both"),
            ("seat ppss 0", "seats both"), ("seat ppppssss 0", "seats port"), ("seat spspsp 0", "seats port"),
        )
        desk.say("weigh bob 70")
        self.answers(desk, ("seat ps 0", "seating ann bob"))
        desk.say("go bob")
        self.answers(desk, ("seat ps 10", "seating ann cy"))
        desk.say("go cy")
        self.answers(desk, ("seat ps 10", "seats starboard"), ("seat psps 10", "seats port"))

    def test_seat_more(self):
        desk = desk_of(*[f"come {name}:both:50" for name in "hgfedcba"])
        self.answers(
            desk, ("seat ps 0", "seating a b"), ("seat pssp 0", "seating a b c d"),
            ("seat sssppp 0", "seating a b c d e f"), ("seat pspspsps 0", "seating a b c d e f g h"),
        )
        desk.say("weigh c 1000000")
        self.answers(desk, ("seat sspp 0", "seating a b d e"), ("seat psspspps 0", "trim 999950"))

    def test_the_trim_as_told(self):
        desk = desk_of("come a:port:1", "come b:starboard:1000000")
        self.answers(desk, ("seat ps 999998", "trim 999999"), ("seat ps 999999", "seating a b"))


class NoRows(Case):
    """What is no row."""

    def no_row(self, *rows):
        self.refused(Desk(), NoRow, *rows)
        desk = desk_of(*FIRST, A_B, B_A, "back")
        self.refused(desk, NoRow, *rows)

    def test_empty(self):
        self.no_row("", " ", "  ", "\n")

    def test_a_word_too_few(self):
        self.no_row("come", "go", "weigh", "weigh ann", "weigh 7", "strike", "who", "who ann", "seat", "seat ps")
        self.no_row("seat 5", "piece", "piece a", "piece a b 1 2", "piece a 1 2 3")

    def test_a_word_too_many(self):
        self.no_row(*[f"{row} {word}" for row in ROWS for word in ("a", "0", "7", "ok", row.split(" ")[0])])

    def test_blanks(self):
        for row in ROWS:
            self.no_row(" " + row, row + " ", "  " + row, row + "  ")
            words = row.split(" ")
            for at in range(1, len(words)):
                self.no_row(" ".join(words[:at]) + "  " + " ".join(words[at:]))

    def test_line_ends_and_tabs(self):
        for row in ROWS:
            self.no_row("\n" + row, row + "\n")
            if " " in row:
                self.no_row(row.replace(" ", "\n", 1), row.replace(" ", "\t"), row.replace(" ", " \n", 1))

    def test_an_unknown_word(self):
        self.no_row("ok", "none", "comes ann:port:70", "com ann:port:70", "pieces a b 1 1 1", "rowers", "help", "~")
        self.no_row("undo", "redo", "tell a b 1 1 1", "verdict a b", "trial", "crews", "seated ps 5", "x" * 2000)

    def test_other_letters(self):
        for row in ROWS:
            word = row.split(" ")[0]
            self.no_row(row.replace(word, word.upper(), 1), row.replace(word, word.title(), 1))
        self.no_row("go Ann", "weigh ANN 7", "who Ann bob", "who ann BOB", "seat PS 5", "seat Ps 5")

    def test_no_name(self):
        for name in ("", "Ann", "abcdefghi", "a1", "a-b", "a+b", "0", "ann:", "ann:port:70", "~"):
            self.no_row(f"go {name}", f"weigh {name} 7", f"who {name} bob", f"who ann {name}")

    def test_two_like_names(self):
        self.no_row("who ann ann", "who a a", "who zzzzzzzz zzzzzzzz")

    def test_no_rower(self):
        for word in ("ann", "ann:port", "ann:port:0", "ann:port:01", "ann:port:1000001", "ann:left:7", "Ann:port:7"):
            self.no_row(f"come {word}")
        self.no_row("come ann:port:-7", "come ann:port:+7", "come ann:port:7:7", "come ann port 7", "come ann:port: 7")

    def test_no_piece(self):
        wrong = [
            "b+a c+d 1 1 1", "a+a c+d 1 1 1", "a a 1 1 1", "a+b b+c 1 1 1", "a b 0 1 1", "a b 1 01 1", "a b 1 1 -1",
            "a b 1 1 1000000001", "a b +1 1 1", "a b c 1 1", "a b 1 1 1 1", "a  b 1 1 1", "a+b c 1 1 1", "A b 1 1 1",
        ]
        self.no_row(*[f"piece {text}" for text in wrong])

    def test_no_number(self):
        wrong = ["1000000000", "9999999999", "00", "01", "007", "-1", "-0", "+1", "+0", "1.0", "1e1", "0x1", "a", "1_0"]
        for number in wrong + ["", "9" * 1900]:
            self.no_row(f"weigh ann {number}", f"strike {number}", f"seat ps {number}")

    def test_no_rig(self):
        for sides in ("p", "s", "pp", "ss", "pps", "pspp", "pspspspsps", "port", "px", "pbs", "ps,ps", "p" * 1000):
            self.no_row(f"seat {sides} 5")

    def test_drawn_words(self):
        words = "come go weigh piece strike back again crew trials who seat a ann ann:port:70 ps 0 5 1 b".split()
        rows = 0
        for seed in range(1500):
            draw = Random(seed)
            row = " ".join(draw.choice(words) for at in range(draw.randint(1, 6)))
            desk = desk_of("come cy:both:60", A_B)
            try:
                desk.say(row)
                rows += 1
            except NoRow:
                self.assertEqual(seen(desk), seen(desk_of("come cy:both:60", A_B)))
            except RowError:
                rows += 1
            else:
                first, *behind = row.split(" ")
                self.assertIn((first, len(behind)), {(kind.split(" ")[0], kind.count(" ")) for kind in ROWS})
        self.assertGreater(rows, 30)


class Refused(Case):
    """What is a row, but is refused as the club does."""

    def test_a_rower_twice(self):
        self.refused(desk_of(*FIRST), Twice, "come ann:port:70", "come ann:both:1")

    def test_too_many_rowers(self):
        desk = desk_of(*[f"come {name}:both:50" for name in "abcdefgh"])
        self.refused(desk, TooMany, "come i:both:50", many=9)
        self.refused(desk, Twice, "come a:both:50")
        self.refused(desk, NoRow, "come a:both:0")

    def test_a_name_of_none(self):
        for desk in (Desk(), desk_of(*FIRST)):
            self.refused(desk, NoName, "go zoe", "go a", "weigh zoe 70", "weigh zoe 0", "weigh zoe 999999999")

    def test_a_weight_of_none(self):
        self.refused(desk_of(*FIRST), NoRower, "weigh ann 0", "weigh ann 1000001", "weigh ann 999999999")

    def test_too_many_pieces(self):
        desk = desk_of(*[A_B] * 40)
        self.refused(desk, TooMany, B_A, many=41)
        self.refused(desk, NoRow, "piece a a 1 1 1")
        self.answers(desk, ("strike 3", "ok"), (B_A, "40"))
        self.refused(desk, TooMany, B_A, many=41)

    def test_a_number_of_none(self):
        desk = desk_of(A_B, B_A, "strike 0")
        self.refused(desk, NoNumber, "strike 0", "strike 2", "strike 999999999")
        self.refused(Desk(), NoNumber, "strike 0")

    def test_nothing_left(self):
        self.refused(Desk(), NothingLeft, "back", "again")
        self.refused(desk_of(*FIRST), NothingLeft, "again")
        self.refused(desk_of("come ann:port:70", "back"), NothingLeft, "back")
        self.refused(desk_of("come ann:port:70", "back", "come bob:port:70"), NothingLeft, "again")

    def test_no_rowers_to_be_seated(self):
        self.refused(Desk(), NoRower, "seat ps 5", "seat pspspsps 0")
        self.refused(desk_of("come ann:port:70", "go ann"), NoRower, "seat ps 5")

    def test_what_is_refused_leaves_what_can_be_done_again(self):
        desk = desk_of(*FIRST, "back", "back")
        self.refused(desk, NoRow, "come bob", "weigh cy -1", "back 1")
        self.refused(desk, NoName, "go ann")
        self.refused(desk, Twice, "come cy:port:1")
        self.answers(desk, ("again", "ok"), ("again", "ok"))
        self.answers(desk, ("crew", "ann:port:70 bob:starboard:80 cy:both:60"))


if __name__ == "__main__":
    unittest.main()
