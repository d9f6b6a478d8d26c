"""Plans with fewest ends."""

from allsome.claims import TRUTHS
from allsome.games import first_numbers, other_side, rows_behind
from allsome.plans import number_of_lost


def ends(tree):
    """How many of kept or lost stand in the tree."""
    if tree[0] == "pick":
        return ends(tree[2])
    if tree[0] == "each":
        return ends(tree[1]) + ends(tree[2])
    return 1


def least_behind(kinds, rows, many):
    """The winner, the fewest ends and a plan with these when so many names are picked and these rows aren't kept."""
    # Where a plan may end, no other one has fewer ends than this one.
    if len(rows) == 0:
        return ("some", 1, ("kept",))
    number = number_of_lost(kinds, rows)
    if number is not None:
        return ("all", 1, ("lost", number))
    return least_by_picks(kinds, rows, many)


def least_by_picks(kinds, rows, many):
    """As least_behind, where a name is still to be picked."""
    who = kinds[many]
    behind = [least_behind(kinds, rows_behind(rows, many + 1, truth), many + 1) for truth in TRUTHS]
    best = None
    for truth, told in zip(TRUTHS, behind):
        if told[0] == who and (best is None or told[1] < best[1]):
            best = (who, told[1], ("pick", truth, told[2]))
    if best is not None:
        return best
    # Neither pick wins for who picks, so both trees are plans of the other one.
    return (other_side(who), behind[0][1] + behind[1][1], ("each", behind[0][2], behind[1][2]))


def least_plan(claim):
    """The claim's winner, the fewest ends of its plans, and a plan with just so many."""
    return least_behind(claim[0], first_numbers(claim[1]), 0)
