"""How many full plans win, and how many full plays are kept."""

from allsome.claims import TRUTHS
from allsome.games import first_numbers, rows_behind


def plans_behind(kinds, side, rows, many):
    """How many full plans of the side win when so many names are picked and these rows aren't kept."""
    if many == len(kinds):
        won_by = "some" if len(rows) == 0 else "all"
        return 1 if won_by == side else 0
    told = [plans_behind(kinds, side, rows_behind(rows, many + 1, truth), many + 1) for truth in TRUTHS]
    # The side's own pick is one of both; against the other's picks it has a plan for each, one beside the other.
    return told[0] + told[1] if kinds[many] == side else told[0] * told[1]


def how_many_plans(claim, side):
    """How many full plans of the side, "some" or "all", win."""
    return plans_behind(claim[0], side, first_numbers(claim[1]), 0)


def how_many_kept(claim):
    """How many full plays are kept."""
    # Where Some chooses all names, each full play is a full plan.
    return plans_behind(("some",) * len(claim[0]), "some", first_numbers(claim[1]), 0)
