"""Row papers: steps by which anybody sees that All wins."""

from allsome.steps import all_made, is_number_of, is_paper, paper


def claims_row(claim, step):
    """What a step ("row", k) makes, or None where it is no such step."""
    if len(step) != 2 or step[0] != "row" or not is_number_of(step[1], len(claim[1])):
        return None
    return claim[1][step[1]]


def rows_of(claim, steps):
    """The rows that the steps make, refused with NoStep."""
    return all_made(claim, "all", claims_row, steps)


def row_paper(claim):
    """A row paper whose last row is empty, refused with NotWon where Some wins."""
    def end(tree, play):
        # All the open literals of a lost row are All's, so "less" drops them.
        return (("row", tree[1]), claim[1][tree[1]])
    return paper(claim, "all", end)


def is_row_paper(claim, thing):
    """Whether a thing is a row paper whose last row is empty."""
    return is_paper(claim, "all", claims_row, thing)
