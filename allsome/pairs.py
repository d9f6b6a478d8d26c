"""Great claims of pairs: who wins them is told at once, by roads or by a rule."""

from allsome.claims import KINDS, is_row

MOST_NAMES = 200
MOST_ROWS = 600
MOST_LITERALS = 2


def is_kinds_of_pairs(thing):
    """Whether a thing is the kinds of a pairs claim."""
    if not isinstance(thing, tuple) or len(thing) > MOST_NAMES:
        return False
    return all([kind in KINDS for kind in thing])


def is_rows_of_pairs(many, thing):
    """Whether a thing is the rows of a pairs claim of so many names."""
    if not isinstance(thing, tuple) or len(thing) > MOST_ROWS:
        return False
    return all([is_row(many, row) and len(row) <= MOST_LITERALS for row in thing])


def is_pairs(thing):
    """Whether a thing is a pairs claim."""
    if not isinstance(thing, tuple) or len(thing) != 2:
        return False
    return is_kinds_of_pairs(thing[0]) and is_rows_of_pairs(len(thing[0]), thing[1])


def literals_of(kinds, side):
    """The literals of the side's names."""
    told = []
    for name, kind in enumerate(kinds, start=1):
        if kind == side:
            told.extend([name, -name])
    return told


def is_of(kinds, side, literal):
    """Whether the literal's name is the side's."""
    return kinds[abs(literal) - 1] == side


def steps_of(claim):
    """For each literal a dict of those to which it has a step."""
    told = {}
    for side in KINDS:
        for literal in literals_of(claim[0], side):
            told[literal] = {}
    for row in claim[1]:
        # Of a row with one literal both are the same one.
        if len(row) > 0:
            told[-row[0]][row[-1]] = True
            told[-row[-1]][row[0]] = True
    return told


def reached_from(steps, start):
    """A dict of all literals to which there is a road from start: from each one to the one ahead of it there."""
    told = {start: None}
    wave = [start]
    while len(wave) > 0:
        further = []
        for literal in wave:
            for other in steps[literal]:
                if other not in told:
                    told[other] = literal
                    further.append(other)
        wave = further
    return told


def all_reached(claim):
    """For each literal what reached_from tells."""
    steps = steps_of(claim)
    return dict([(literal, reached_from(steps, literal)) for literal in steps])


def road(reached, start, end):
    """A road from start to end, which start reaches."""
    told = [end]
    while told[-1] != start:
        told.append(reached[start][told[-1]])
    told.reverse()
    return told


def empty_row(rows):
    """("empty", k), or None."""
    for number, row in enumerate(rows):
        if len(row) == 0:
            return ("empty", number)
    return None


def turn(kinds, reached):
    """("turn", there, back), or None."""
    for literal in literals_of(kinds, "some"):
        if -literal in reached[literal] and literal in reached[-literal]:
            return ("turn", road(reached, literal, -literal), road(reached, -literal, literal))
    return None


def early(kinds, reached):
    """("early", there, back), or None."""
    for literal in literals_of(kinds, "all"):
        for other in reached[literal]:
            if is_of(kinds, "some", other) and abs(other) < abs(literal) and literal in reached[other]:
                return ("early", road(reached, literal, other), road(reached, other, literal))
    return None


def meet(kinds, reached):
    """("meet", road), or None."""
    for literal in literals_of(kinds, "all"):
        for other in reached[literal]:
            if is_of(kinds, "all", other) and other != literal:
                return ("meet", road(reached, literal, other))
    return None


def bound_by_all(kinds, reached):
    """For each literal of Some's that a literal of All's reaches: this one where there is a road back, else True."""
    told = {}
    for literal in literals_of(kinds, "all"):
        for other in reached[literal]:
            if is_of(kinds, "some", other):
                told[other] = literal if literal in reached[other] else True
    return told


def rule(kinds, reached):
    """Some's rule where All has none of the four."""
    right = bound_by_all(kinds, reached)
    for literal in literals_of(kinds, "some"):
        # A literal from which there is a road to one of All's has its opposite among the bound ones.
        if literal not in right and -literal not in right and -literal not in reached[literal]:
            for other in reached[literal]:
                right[other] = True
    told = []
    for name, kind in enumerate(kinds, start=1):
        told.append(right.get(name, False) if kind == "some" else None)
    return tuple(told)


def told_pairs(claim):
    """("all", what lets All win) or ("some", the rule by which Some wins) of a pairs claim."""
    kinds = claim[0]
    why = empty_row(claim[1])
    if why is not None:
        return ("all", why)
    reached = all_reached(claim)
    for found in (turn(kinds, reached), early(kinds, reached), meet(kinds, reached)):
        if found is not None:
            return ("all", found)
    return ("some", rule(kinds, reached))
