"""Played by papers: who holds a paper picks by it, without a search.

All picks by the first "less" of a row paper that drops a literal of the name
and leaves a row that is lost already: the literal is picked wrong. Why this
wins: the last row, the empty one, is lost in each full play, so some row is the
first of the paper to be lost. "joined" doesn't make it, as then one of the two
rows that it joins would be lost, too; nor does "less", as All picked all that
it drops wrong. So it is a row of the claim. A term paper is Some's likewise,
with right in the place of wrong.
"""

from allsome.claims import TRUTHS, is_lost, is_right
from allsome.rowpapers import claims_row
from allsome.steps import all_made


def is_used_up(side, row, play):
    """Whether all literals are wrong in the play, of a row of All's paper, or right, of a term of Some's."""
    if side == "all":
        return is_lost(row, play)
    return all([is_right(literal, play) for literal in row])


def literal_used(side, name, truth):
    """The literal of the name that this pick makes wrong, for All, or right, for Some."""
    return name if truth == (side == "some") else -name


def told_term(claim, step):
    """What a step ("term", t) of a right paper makes."""
    # Looking over each term anew for each pick would take long where the claim has many rows.
    return step[1]


def by_paper(claim, side, first, steps, play):
    """The truth that the side picks behind the play by its paper; first as in all_made."""
    rows = all_made(claim, side, first, steps)
    name = len(play) + 1
    for step, row in zip(steps, rows):
        if step[0] == "less" and is_used_up(side, row, play):
            for truth in TRUTHS:
                if literal_used(side, name, truth) in rows[step[1]]:
                    return truth
    # Nothing hangs on this pick.
    return False


def by_rows(claim, steps, play):
    """A truth by which All picks next and wins, by a row paper whose last row is empty."""
    return by_paper(claim, "all", claims_row, steps, play)


def by_terms(claim, steps, play):
    """A truth by which Some picks next and wins, by a term paper whose last term is empty."""
    return by_paper(claim, "some", told_term, steps, play)
