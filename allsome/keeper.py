"""Rows as they come: a claim whose rows are put to it, taken out and brought back."""

from allsome.claims import MOST_ROWS, is_row
from allsome.errors import NoBack, NoRow, TooMany
from allsome.games import winner
from allsome.plans import plan
from allsome.rowpapers import row_paper
from allsome.steps import is_number_of
from allsome.termpapers import term_paper


class Keeper:
    """A keeper of kinds, at first without rows."""

    def __init__(self, kinds):
        self.kinds = tuple(kinds)
        self.rows = ()
        # The rows as they were ahead of each put or out that stands.
        self.past = []

    def put(self, row):
        """Puts a row as the last one and tells its number, refused with NoRow, then TooMany."""
        if not is_row(len(self.kinds), row):
            raise NoRow("this is no row of these names")
        if len(self.rows) >= MOST_ROWS:
            raise TooMany(f"more than {MOST_ROWS} rows")
        self.past.append(self.rows)
        self.rows = self.rows + (row,)
        return len(self.rows) - 1

    def out(self, number):
        """The row of this number goes out, refused with NoRow where there is none."""
        if not is_number_of(number, len(self.rows)):
            raise NoRow("there is no row of this number")
        self.past.append(self.rows)
        self.rows = self.rows[:number] + self.rows[number + 1:]

    def back(self):
        """The last put or out that stands is undone, refused with NoBack."""
        if len(self.past) == 0:
            raise NoBack("no put and no out stands")
        self.rows = self.past.pop()

    def claim(self):
        """The claim as it stands."""
        return (self.kinds, self.rows)

    def winner(self):
        """Who wins the claim."""
        return winner(self.claim(), ())

    def plan(self):
        """The winner and a plan."""
        return plan(self.claim())

    def paper(self):
        """The winner and the steps of a paper: a row paper of All's, a term paper of Some's."""
        side = self.winner()
        steps = row_paper(self.claim()) if side == "all" else term_paper(self.claim())
        return (side, steps)
