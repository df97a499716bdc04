"""A desk, where a club is told and asked by rows of words."""

from rowtrim.clubs import Club
from rowtrim.errors import NoRow, NoText
from rowtrim.kinds import is_name
from rowtrim.rowers import is_rig
from rowtrim.texts import is_number_text, read_piece, read_rower, show_fraction, show_rower

MOST_FIGURES = 9
SIDES = {"p": "port", "s": "starboard"}


def name_in(word):
    """The word, which must be a name."""
    if not is_name(word):
        raise NoRow("this is no name")
    return word


def number_in(word):
    """The number that the word writes."""
    if not is_number_text(word, MOST_FIGURES):
        raise NoRow("this is no number")
    return int(word)


def rower_in(word):
    """The rower that the word writes."""
    try:
        return read_rower(word)
    except NoText:
        raise NoRow("this is no rower") from None


def piece_in(words):
    """The piece that the words write."""
    try:
        return read_piece(" ".join(words))
    except NoText:
        raise NoRow("this is no piece") from None


def rig_in(word):
    """The rig that the word writes."""
    rig = tuple([SIDES.get(sign, "") for sign in word])
    if not is_rig(rig):
        raise NoRow("this is no rig")
    return rig


def listed(texts):
    """The texts, blanks between, or none."""
    if len(texts) == 0:
        return "none"
    return " ".join(texts)


def show_trial(trial):
    """The trial as MORE>LESS:BY."""
    more, less, by = trial
    return f"{more}>{less}:{show_fraction(by)}"


def come_row(club, words):
    """A rower comes."""
    club.come(rower_in(words[0]))
    return "ok"


def go_row(club, words):
    """A rower goes."""
    club.go(name_in(words[0]))
    return "ok"


def weigh_row(club, words):
    """A rower is weighed."""
    club.weigh(name_in(words[0]), number_in(words[1]))
    return "ok"


def piece_row(club, words):
    """A piece is told."""
    return str(club.tell(piece_in(words)))


def strike_row(club, words):
    """A piece is struck out."""
    club.strike(number_in(words[0]))
    return "ok"


def back_row(club, words):
    """The last deed is taken back."""
    club.back()
    return "ok"


def again_row(club, words):
    """What was taken back last is done again."""
    club.again()
    return "ok"


def crew_row(club, words):
    """The rowers are asked for."""
    return listed([show_rower(rower) for rower in club.rowers()])


def trials_row(club, words):
    """The trials are asked for."""
    return listed([show_trial(trial) for one, other, trial in club.trials()])


def who_row(club, words):
    """What trials tell of two names is asked for."""
    one, other = name_in(words[0]), name_in(words[1])
    if one == other:
        raise NoRow("the two names are alike")
    return club.verdict(one, other)


def seat_row(club, words):
    """What can be seated is asked for."""
    told = club.seated(rig_in(words[0]), number_in(words[1]))
    if told[0] == "seating":
        return listed(["seating"] + list(told[1]))
    return f"{told[0]} {told[1]}"


# By the first word, and how many words stand behind it.
ROWS = {
    ("come", 1): come_row, ("go", 1): go_row, ("weigh", 2): weigh_row,
    ("piece", 5): piece_row, ("strike", 1): strike_row, ("back", 0): back_row, ("again", 0): again_row,
    ("crew", 0): crew_row, ("trials", 0): trials_row, ("who", 2): who_row, ("seat", 2): seat_row,
}


class Desk:
    """A club that is told and asked by rows."""

    def __init__(self):
        self.club = Club()

    def say(self, row):
        """Carries out a row, and answers it."""
        words = row.split(" ")
        kind = (words[0], len(words) - 1)
        if kind not in ROWS:
            raise NoRow("no row is such")
        answer = ROWS[kind]
        return answer(self.club, words[1:])
