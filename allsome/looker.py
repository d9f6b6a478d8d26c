"""What is told of great claims of pairs, looked over."""

from allsome.claims import is_truth, is_whole
from allsome.pairs import is_of, steps_of
from allsome.steps import is_number_of


def is_literal(many, thing):
    """Whether a thing is a literal of one of so many names."""
    return is_whole(thing) and 1 <= abs(thing) <= many


def is_road(claim, thing):
    """Whether a thing is a road."""
    if not isinstance(thing, list) or len(thing) == 0:
        return False
    if not all([is_literal(len(claim[0]), literal) for literal in thing]):
        return False
    steps = steps_of(claim)
    return all([other in steps[literal] for literal, other in zip(thing, thing[1:])])


def is_there_and_back(claim, there, back):
    """Whether two things are a road and one from its end back to its beginning."""
    if not is_road(claim, there) or not is_road(claim, back):
        return False
    return back[0] == there[-1] and back[-1] == there[0]


def is_empty_told(claim, thing):
    """Whether a tuple is ("empty", k) of the claim."""
    if len(thing) != 2 or not is_number_of(thing[1], len(claim[1])):
        return False
    return len(claim[1][thing[1]]) == 0


def is_turn_told(claim, thing):
    """Whether a tuple is ("turn", there, back) of the claim."""
    if len(thing) != 3 or not is_there_and_back(claim, thing[1], thing[2]):
        return False
    start = thing[1][0]
    return is_of(claim[0], "some", start) and thing[1][-1] == -start


def is_early_told(claim, thing):
    """Whether a tuple is ("early", there, back) of the claim."""
    if len(thing) != 3 or not is_there_and_back(claim, thing[1], thing[2]):
        return False
    start = thing[1][0]
    end = thing[1][-1]
    return is_of(claim[0], "all", start) and is_of(claim[0], "some", end) and abs(end) < abs(start)


def is_meet_told(claim, thing):
    """Whether a tuple is ("meet", road) of the claim."""
    if len(thing) != 2 or not is_road(claim, thing[1]):
        return False
    start = thing[1][0]
    end = thing[1][-1]
    return is_of(claim[0], "all", start) and is_of(claim[0], "all", end) and start != end


def lets_all_win(claim, thing):
    """Whether a thing is one of the four by which All wins."""
    if not isinstance(thing, tuple) or len(thing) == 0:
        return False
    if thing[0] == "empty":
        return is_empty_told(claim, thing)
    if thing[0] == "turn":
        return is_turn_told(claim, thing)
    if thing[0] == "early":
        return is_early_told(claim, thing)
    return thing[0] == "meet" and is_meet_told(claim, thing)


def is_told_of_name(kinds, name, thing):
    """Whether a thing may stand in a rule for this name."""
    if kinds[name - 1] == "all":
        return thing is None
    # A name ahead is one of the name - 1 first.
    return is_truth(thing) or (is_literal(name - 1, thing) and is_of(kinds, "all", thing))


def by_rule(kinds, rule, literal):
    """The truth or All's literal by which the literal is right."""
    if is_of(kinds, "all", literal):
        return literal
    told = rule[abs(literal) - 1]
    if is_truth(told):
        return told == (literal > 0)
    return told if literal > 0 else -told


def is_kept_by(kinds, rule, row):
    """Whether by the rule the row is kept whatever All picks."""
    told = [by_rule(kinds, rule, literal) for literal in row]
    if any([part is True for part in told]):
        return True
    # Else All picks all that stands there wrong, unless a literal stands there with its opposite.
    return any([-part in told for part in told if part is not False])


def lets_some_win(claim, thing):
    """Whether a thing is a rule by which Some wins."""
    kinds = claim[0]
    if not isinstance(thing, tuple) or len(thing) != len(kinds):
        return False
    for name, told in enumerate(thing, start=1):
        if not is_told_of_name(kinds, name, told):
            return False
    return all([is_kept_by(kinds, thing, row) for row in claim[1]])


def is_told(claim, thing):
    """Whether a thing is what told_pairs might tell of a pairs claim."""
    if not isinstance(thing, tuple) or len(thing) != 2:
        return False
    if thing[0] == "all":
        return lets_all_win(claim, thing[1])
    return thing[0] == "some" and lets_some_win(claim, thing[1])
