"""A club: rowers who come, go and are weighed, pieces that are told and struck out."""

from rowtrim.errors import NoName, NoNumber, NoPiece, NoRower, NoTrial, NothingLeft, TooMany, Twice
from rowtrim.pieces import is_piece, trial_of
from rowtrim.rowers import MOST_ROWERS, is_rower, is_weight
from rowtrim.seatings import seated
from rowtrim.trials import verdict

MOST_PIECES = 40
MOST_TRIALS = 40


def trial_or_none(one, other):
    """The trial that two pieces are, or None."""
    try:
        return trial_of(one, other)
    except NoTrial:
        return None


def names_of(crew):
    """The names of the rowers."""
    return [rower[0] for rower in crew]


class Club:
    """Rowers and pieces, with deeds that can be taken back and done again."""

    def __init__(self):
        # Each state is (rowers by their names, (number, piece) of those that stand, number of the next piece).
        # None is ever changed, so that a deed is taken back by leaving its state.
        self.states = [((), (), 0)]
        self.left = []

    def __len__(self):
        return len(self.rowers())

    def __eq__(self, other):
        return isinstance(other, Club) and self.rowers() == other.rowers() and self.pieces() == other.pieces()

    def enter(self, crew, standing, following):
        """Does a new deed, which ends what could be done again."""
        self.states.append((tuple(crew), tuple(standing), following))
        self.left = []

    def come(self, rower):
        """A rower comes."""
        crew, standing, following = self.states[-1]
        if not is_rower(rower):
            raise NoRower("this is no rower")
        if rower[0] in names_of(crew):
            raise Twice("the name is there already")
        if len(crew) >= MOST_ROWERS:
            raise TooMany(len(crew) + 1)
        self.enter(sorted(crew + (rower,)), standing, following)

    def go(self, name):
        """A rower goes."""
        crew, standing, following = self.states[-1]
        if name not in names_of(crew):
            raise NoName("nobody has this name")
        self.enter([rower for rower in crew if rower[0] != name], standing, following)

    def weigh(self, name, weight):
        """A rower is weighed."""
        crew, standing, following = self.states[-1]
        if name not in names_of(crew):
            raise NoName("nobody has this name")
        if not is_weight(weight):
            raise NoRower("no rower has such a weight")
        weighed = [(rower[0], rower[1], weight) if rower[0] == name else rower for rower in crew]
        self.enter(weighed, standing, following)

    def tell(self, piece):
        """A piece is told; its number is told back."""
        crew, standing, following = self.states[-1]
        if not is_piece(piece):
            raise NoPiece("this is no piece")
        if len(standing) >= MOST_PIECES:
            raise TooMany(len(standing) + 1)
        self.enter(crew, standing + ((following, piece),), following + 1)
        return following

    def strike(self, number):
        """A piece is struck out."""
        crew, standing, following = self.states[-1]
        if number not in [other for other, piece in standing]:
            raise NoNumber("no piece has this number")
        self.enter(crew, [told for told in standing if told[0] != number], following)

    def back(self):
        """The last deed is taken back."""
        if len(self.states) == 1:
            raise NothingLeft("nothing to take back")
        self.left.append(self.states.pop())

    def again(self):
        """What was taken back last is done again."""
        if len(self.left) == 0:
            raise NothingLeft("nothing to do again")
        self.states.append(self.left.pop())

    def rowers(self):
        """The rowers, by their names."""
        return list(self.states[-1][0])

    def pieces(self):
        """The pieces that stand, as (number, piece)."""
        return list(self.states[-1][1])

    def trials(self):
        """All trials of two pieces that stand, as (number, number, trial)."""
        found = []
        standing = self.pieces()
        for at, (one, piece) in enumerate(standing):
            for other, later in standing[at + 1:]:
                trial = trial_or_none(piece, later)
                if trial is not None:
                    found.append((one, other, trial))
        return found

    def verdict(self, one, other):
        """What the first of its trials tell of two names."""
        return verdict([trial for earlier, later, trial in self.trials()[:MOST_TRIALS]], one, other)

    def seated(self, rig, most=0):
        """What can be seated by its rowers within a trim."""
        crew = self.rowers()
        if len(crew) == 0:
            raise NoRower("there are no rowers")
        return seated(crew, rig, most)
