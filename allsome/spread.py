"""A claim spread over all that All may choose."""

from allsome.claims import TRUTHS, is_kept, is_truth


def names_ahead(kinds):
    """For each name how many names of All are ahead of it."""
    return [kinds[:number].count("all") for number in range(len(kinds))]


def choices(many):
    """All tuples of so many truths, rising."""
    told = [()]
    while len(told[0]) < many:
        longer = []
        for choice in told:
            longer.extend([choice + (truth,) for truth in TRUTHS])
        told = longer
    return told


def parts_of(kinds):
    """The parts of a claim of these kinds, rising."""
    told = []
    ahead = names_ahead(kinds)
    for number, kind in enumerate(kinds):
        if kind == "some":
            told.extend([(number + 1, choice) for choice in choices(ahead[number])])
    return tuple(told)


def row_spread(kinds, ahead, numbers, row, choice):
    """The row's literals of Some as numbers of parts, or None where one of All's is right in the full choice."""
    told = []
    for literal in row:
        name = abs(literal)
        many = ahead[name - 1]
        if kinds[name - 1] == "some":
            number = numbers[(name, choice[:many])]
            told.append(number if literal > 0 else -number)
        elif choice[many] == (literal > 0):
            return None
    return tuple(told)


def spread(claim):
    """The claim spread: its parts and the rows over their numbers."""
    kinds = claim[0]
    parts = parts_of(kinds)
    numbers = dict([(part, number) for number, part in enumerate(parts, start=1)])
    ahead = names_ahead(kinds)
    rows = {}
    for choice in choices(kinds.count("all")):
        for row in claim[1]:
            told = row_spread(kinds, ahead, numbers, row, choice)
            if told is not None:
                rows[told] = True
    return (parts, tuple(sorted(rows)))


def keeps(claim, thing):
    """Whether a thing is a full plan of Some that keeps the claim."""
    if not isinstance(thing, tuple) or len(thing) != len(parts_of(claim[0])):
        return False
    if not all([is_truth(picked) for picked in thing]):
        return False
    # The parts are numbered as names are, so a full plan is to the spread rows what a full play is.
    return all([is_kept(row, thing) for row in spread(claim)[1]])
