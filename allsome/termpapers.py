"""Term papers: steps by which anybody sees that Some wins."""

from allsome.claims import is_right, is_row
from allsome.steps import all_made, is_paper, paper


def have_one_in_common(one, other):
    """Whether two rows have a literal in common."""
    return any([literal in other for literal in one])


def claims_term(claim, step):
    """What a step ("term", t) makes, or None where it is no such step."""
    if len(step) != 2 or step[0] != "term" or not is_row(len(claim[0]), step[1]):
        return None
    for row in claim[1]:
        if not have_one_in_common(row, step[1]):
            return None
    return step[1]


def terms_of(claim, steps):
    """The terms that the steps make, refused with NoStep."""
    return all_made(claim, "some", claims_term, steps)


def term_of_play(rows, play):
    """A term of literals that are right in the play, with one of each row, where all rows are kept in it."""
    told = {}
    for row in rows:
        if not have_one_in_common(row, told):
            right = [literal for literal in row if is_right(literal, play)]
            told[right[0]] = True
    return tuple(sorted(told, key=abs))


def term_paper(claim):
    """A term paper whose last term is empty, refused with NotWon where All wins."""
    def end(tree, play):
        term = term_of_play(claim[1], play)
        return (("term", term), term)
    return paper(claim, "some", end)


def is_term_paper(claim, thing):
    """Whether a thing is a term paper whose last term is empty."""
    return is_paper(claim, "some", claims_term, thing)
