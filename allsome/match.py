"""Matches: a claim played out pick by pick."""

from allsome.claims import is_truth, left
from allsome.errors import NoBack, NoPick
from allsome.games import good_picks, winner


class Match:
    """A match of a claim, which begins with the play of none."""

    def __init__(self, claim):
        self.begun = claim
        self.picked = ()

    def pick(self, truth):
        """The next name is picked, refused with NoPick."""
        if not is_truth(truth):
            raise NoPick("a pick is a truth")
        if len(self.picked) == len(self.begun[0]):
            raise NoPick("all names are picked")
        self.picked = self.picked + (truth,)

    def back(self):
        """The last pick that stands is taken back, refused with NoBack."""
        if len(self.picked) == 0:
            raise NoBack("no pick stands")
        self.picked = self.picked[:-1]

    def play(self):
        """What was picked so far."""
        return self.picked

    def turn(self):
        """Who picks next, or None where the play is full."""
        if len(self.picked) == len(self.begun[0]):
            return None
        return self.begun[0][len(self.picked)]

    def who(self):
        """Who wins."""
        return winner(self.begun, self.picked)

    def good(self):
        """The truths by which who picks next comes to a play that this one wins."""
        return good_picks(self.begun, self.picked)

    def left(self):
        """The claim left."""
        return left(self.begun, self.picked)
