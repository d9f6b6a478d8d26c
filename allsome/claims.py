"""Claims, rows and plays: what they are, and the claim left behind a play."""

KINDS = ("all", "some")
TRUTHS = (False, True)
MOST_NAMES = 8
MOST_ROWS = 20


def is_whole(thing):
    """Whether a thing is a whole number."""
    # To Python a truth is an int, too; here it is none.
    return isinstance(thing, int) and not isinstance(thing, bool)


def is_truth(thing):
    """Whether a thing is a truth."""
    # By == also 0 and 1 would be taken for truths.
    return thing is True or thing is False


def is_kinds(thing):
    """Whether a thing is the kinds of a claim."""
    if not isinstance(thing, tuple) or len(thing) > MOST_NAMES:
        return False
    return all([kind in KINDS for kind in thing])


def is_row(many, thing):
    """Whether a thing is a row over so many names."""
    if not isinstance(thing, tuple):
        return False
    last = 0
    for literal in thing:
        # That names rise from above 0 rules out the literal 0 and a name twice, too.
        if not is_whole(literal) or abs(literal) <= last or abs(literal) > many:
            return False
        last = abs(literal)
    return True


def is_rows(many, thing):
    """Whether a thing is the rows of a claim of so many names."""
    if not isinstance(thing, tuple) or len(thing) > MOST_ROWS:
        return False
    return all([is_row(many, row) for row in thing])


def is_claim(thing):
    """Whether a thing is a claim."""
    if not isinstance(thing, tuple) or len(thing) != 2:
        return False
    return is_kinds(thing[0]) and is_rows(len(thing[0]), thing[1])


def is_play(claim, thing):
    """Whether a thing is a play of the claim."""
    if not isinstance(thing, tuple) or len(thing) > len(claim[0]):
        return False
    return all([is_truth(picked) for picked in thing])


def is_open(literal, play):
    """Whether the literal's name wasn't picked yet."""
    return abs(literal) > len(play)


def is_right(literal, play):
    """Whether the literal's name was picked as the literal says."""
    return not is_open(literal, play) and play[abs(literal) - 1] == (literal > 0)


def is_kept(row, play):
    """Whether one of the row's literals is right."""
    for literal in row:
        if is_right(literal, play):
            return True
    return False


def is_lost(row, play):
    """Whether all of the row's literals are wrong."""
    for literal in row:
        if is_open(literal, play) or is_right(literal, play):
            return False
    return True


def renumbered(literal, many):
    """The literal where so many first names are gone."""
    return literal - many if literal > 0 else literal + many


def row_left(row, play):
    """The row's open literals, renumbered."""
    return tuple([renumbered(literal, len(play)) for literal in row if is_open(literal, play)])


def left(claim, play):
    """The claim left behind the play."""
    rows = [row_left(row, play) for row in claim[1] if not is_kept(row, play)]
    return (claim[0][len(play):], tuple(rows))
