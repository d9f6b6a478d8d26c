"""Plans: trees by which one side wins whatever the other one picks."""

from allsome.claims import TRUTHS, is_kept, is_open, is_truth, is_whole
from allsome.games import first_numbers, other_side, rows_behind


def are_of_all(kinds, literals):
    """Whether all literals are of names of All."""
    return all([kinds[abs(literal) - 1] == "all" for literal in literals])


def number_of_lost(kinds, rows):
    """The number of a row with open names of All alone, or None where there is none."""
    for row in rows:
        if are_of_all(kinds, row):
            return rows[row]
    return None


def plan_behind(kinds, rows, many):
    """The winner and a plan when so many names are picked and these rows aren't kept."""
    if len(rows) == 0:
        return ("some", ("kept",))
    number = number_of_lost(kinds, rows)
    if number is not None:
        return ("all", ("lost", number))
    return plan_by_picks(kinds, rows, many)


def plan_by_picks(kinds, rows, many):
    """As plan_behind, where a name is still to be picked."""
    who = kinds[many]
    trees = []
    for truth in TRUTHS:
        told = plan_behind(kinds, rows_behind(rows, many + 1, truth), many + 1)
        if told[0] == who:
            return (who, ("pick", truth, told[1]))
        trees.append(told[1])
    # Neither pick wins for who picks, so both trees are plans of the other one.
    return (other_side(who), ("each", trees[0], trees[1]))


def plan(claim):
    """The claim's winner and a plan by which this one wins."""
    return plan_behind(claim[0], first_numbers(claim[1]), 0)


def is_plan_end(claim, side, play, thing):
    """Whether a tuple that is no pick and no each is the side's plan behind the play."""
    if thing == ("kept",):
        return side == "some" and all([is_kept(row, play) for row in claim[1]])
    if len(thing) != 2 or thing[0] != "lost" or side != "all":
        return False
    number = thing[1]
    if not is_whole(number) or number < 0 or number >= len(claim[1]):
        return False
    row = claim[1][number]
    return not is_kept(row, play) and are_of_all(claim[0], [literal for literal in row if is_open(literal, play)])


def is_plan_behind(claim, side, play, thing):
    """Whether a thing is a tree that is the side's plan behind the play."""
    if not isinstance(thing, tuple):
        return False
    # A tree goes down no further than there are names, however deep the thing is.
    if len(thing) != 3 or len(play) == len(claim[0]):
        return is_plan_end(claim, side, play, thing)
    picks = claim[0][len(play)] == side
    if thing[0] == "pick":
        return picks and is_truth(thing[1]) and is_plan_behind(claim, side, play + (thing[1],), thing[2])
    if thing[0] != "each" or picks:
        return False
    for truth, tree in zip(TRUTHS, thing[1:]):
        if not is_plan_behind(claim, side, play + (truth,), tree):
            return False
    return True


def is_plan(claim, side, thing):
    """Whether a thing is a tree that is a plan of the side, "some" or "all", for the claim."""
    return is_plan_behind(claim, side, (), thing)
