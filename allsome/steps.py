"""What row papers and term papers have in common.

A row paper is All's, a term paper is Some's. Their steps are alike with the
sides exchanged: "less" drops literals of the paper's own side, "joined" goes by
a name of the other side. What a step makes, a row or a term, is called a row here.
"""

from allsome.claims import TRUTHS, is_whole
from allsome.errors import NoStep, NotWon
from allsome.plans import plan


def is_number_of(thing, many):
    """Whether a thing is a number of one of so many, numbered from 0."""
    return is_whole(thing) and 0 <= thing < many


def is_name_of_other(kinds, side, thing):
    """Whether a thing is a name that the other side chooses."""
    return is_whole(thing) and 1 <= thing <= len(kinds) and kinds[thing - 1] != side


def lessened(kinds, side, row):
    """The row without the side's literals behind which it has none of the other side's."""
    stays = len(row)
    while stays > 0 and kinds[abs(row[stays - 1]) - 1] == side:
        stays -= 1
    return row[:stays]


def without(row, literal):
    """The row without this literal."""
    return tuple([other for other in row if other != literal])


def both(one, other):
    """All literals of both rows, or None where some name is there both ways."""
    told = list(one)
    for literal in other:
        if -literal in one:
            return None
        if literal not in one:
            told.append(literal)
    return tuple(sorted(told, key=abs))


def joined(one, other, name):
    """All literals of both rows but name and its opposite, or None where they can't be joined by this name."""
    if name not in one or -name not in other:
        return None
    return both(without(one, name), without(other, -name))


def made_by_less(kinds, side, made, step):
    """What a step "less" makes behind the rows made, or None."""
    if len(step) != 2 or not is_number_of(step[1], len(made)):
        return None
    return lessened(kinds, side, made[step[1]])


def made_by_joined(kinds, side, made, step):
    """What a step "joined" makes behind the rows made, or None."""
    if len(step) != 4 or not is_number_of(step[1], len(made)) or not is_number_of(step[2], len(made)):
        return None
    if not is_name_of_other(kinds, side, step[3]):
        return None
    return joined(made[step[1]], made[step[2]], step[3])


def made_by(claim, side, first, made, step):
    """What a step, of any thing, makes behind the rows made, or None; first(claim, step) tells it of other words."""
    if not isinstance(step, tuple) or len(step) == 0:
        return None
    if step[0] == "less":
        return made_by_less(claim[0], side, made, step)
    if step[0] == "joined":
        return made_by_joined(claim[0], side, made, step)
    return first(claim, step)


def all_made(claim, side, first, steps):
    """The rows that the steps make, refused with NoStep."""
    made = []
    for number, step in enumerate(steps):
        row = made_by(claim, side, first, made, step)
        if row is None:
            raise NoStep(number)
        made.append(row)
    return made


def is_paper(claim, side, first, thing):
    """Whether a thing is a paper of the side's whose last row is empty."""
    if not isinstance(thing, list):
        return False
    try:
        made = all_made(claim, side, first, thing)
    except NoStep:
        return False
    return len(made) > 0 and made[-1] == ()


def put_step(kinds, side, pairs, step, row):
    """Puts a step with the row that it makes to the pairs, and "less" behind it where that drops a literal."""
    pairs.append((step, row))
    less = lessened(kinds, side, row)
    if less != row:
        pairs.append((("less", len(pairs) - 1), less))


def put_tree(kinds, side, end, pairs, tree, play):
    """Puts the steps for a plan of the side's behind the play; end(tree, play) tells the pair for its ends.

    The row that is put last has literals of picked names alone: all wrong in the
    play where the side is All, all right where it is Some. So behind the play of
    none it is empty.
    """
    if tree[0] == "pick":
        # The row behind the pick has none of this name: as its last literal "less" would have dropped it.
        put_tree(kinds, side, end, pairs, tree[2], play + (tree[1],))
    elif tree[0] == "each":
        put_each(kinds, side, end, pairs, tree, play)
    else:
        told = end(tree, play)
        put_step(kinds, side, pairs, told[0], told[1])


def put_each(kinds, side, end, pairs, tree, play):
    """As put_tree, where the other side picks next."""
    name = len(play) + 1
    numbers = {}
    for truth, branch in zip(TRUTHS, tree[1:]):
        put_tree(kinds, side, end, pairs, branch, play + (truth,))
        row = pairs[-1][1]
        # Where the row has none of this name, it serves for both picks.
        if name not in row and -name not in row:
            return
        numbers[row[-1]] = len(pairs) - 1
    one = numbers[name]
    other = numbers[-name]
    put_step(kinds, side, pairs, ("joined", one, other, name), joined(pairs[one][1], pairs[other][1], name))


def paper(claim, side, end):
    """The steps of a paper of the side's whose last row is empty, refused with NotWon; end as in put_tree."""
    told = plan(claim)
    if told[0] != side:
        raise NotWon(f"{side} does not win this claim")
    pairs = []
    put_tree(claim[0], side, end, pairs, told[1], ())
    return [step for step, row in pairs]
