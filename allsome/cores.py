"""Rows that matter: needless ones, lean ones, and fewest ones by which All wins.

Many choices of rows are tried here, so a row goes as the full plays in which it
is lost: a whole number with a bit for each full play. In the number of a full
play bit k - 1 stands where name k was picked yes, so the plays with the last
name picked no are the lower half.
"""

from allsome.errors import NotWon, TooMany
from allsome.steps import is_number_of

MOST_TRIED = 6


def plays_with_yes(many, name):
    """The full plays of so many names in which this name was picked yes, as bits."""
    told = 0
    for number in range(1 << many):
        if number >> (name - 1) & 1:
            told |= 1 << number
    return told


def lost_plays(claim):
    """For each row the full plays in which it is lost, as bits."""
    many = len(claim[0])
    every = (1 << (1 << many)) - 1
    wrong = {}
    for name in range(1, many + 1):
        wrong[-name] = plays_with_yes(many, name)
        wrong[name] = every ^ wrong[-name]
    told = []
    for row in claim[1]:
        lost = every
        for literal in row:
            lost &= wrong[literal]
        told.append(lost)
    return told


def all_wins(kinds, lost):
    """Whether All wins where just these full plays, as bits, are lost."""
    for many in range(len(kinds) - 1, -1, -1):
        half = 1 << many
        no = lost & ((1 << half) - 1)
        yes = lost >> half
        lost = no | yes if kinds[many] == "all" else no & yes
    return lost == 1


def all_wins_by(kinds, lost, numbers):
    """Whether All wins by the rows of these numbers alone; lost as lost_plays tells."""
    together = 0
    for number in numbers:
        together |= lost[number]
    return all_wins(kinds, together)


def others(many, numbers):
    """The rising tuple of those numbers, of so many from 0 on, that are none of these."""
    return tuple([number for number in range(many) if number not in numbers])


def is_needless(claim, k):
    """Whether the claim without row k has the same winner."""
    lost = lost_plays(claim)
    many = len(lost)
    return all_wins_by(claim[0], lost, others(many, (k,))) == all_wins_by(claim[0], lost, others(many, ()))


def refuse_not_won(kinds, lost):
    """Refuses with NotWon where All doesn't win by all the rows."""
    if not all_wins_by(kinds, lost, others(len(lost), ())):
        raise NotWon("all does not win this claim")


def lost_ahead(lost):
    """For each row the full plays that are lost by one of the rows ahead of it."""
    told = []
    ahead = 0
    for plays in lost:
        told.append(ahead)
        ahead |= plays
    return told


def lean(claim):
    """The rising numbers of the lean rows, refused with NotWon where Some wins."""
    lost = lost_plays(claim)
    refuse_not_won(claim[0], lost)
    ahead = lost_ahead(lost)
    told = []
    stay = 0
    for number in range(len(lost) - 1, -1, -1):
        if not all_wins(claim[0], ahead[number] | stay):
            told.append(number)
            stay |= lost[number]
    told.reverse()
    return told


def number_choices(many, size):
    """All rising tuples of this size of the numbers from 0 on, so many of them."""
    told = [()]
    for part in range(size):
        longer = []
        for choice in told:
            first = choice[-1] + 1 if choice else 0
            longer.extend([choice + (number,) for number in range(first, many)])
        told = longer
    return told


def fewest_numbers(kinds, lost):
    """Fewest rows by which alone All wins, where it wins by all of them."""
    many = len(lost)
    for size in range(many):
        for numbers in number_choices(many, size):
            if all_wins_by(kinds, lost, numbers):
                return numbers
    return others(many, ())


def fewest_rows(claim):
    """Fewest rows by which alone All wins, with bars that show it, refused with NotWon, then TooMany."""
    lost = lost_plays(claim)
    many = len(lost)
    refuse_not_won(claim[0], lost)
    if many > MOST_TRIED:
        raise TooMany(f"more than {MOST_TRIED} rows")
    numbers = fewest_numbers(claim[0], lost)
    # All doesn't win by a choice of one row fewer, so without all the others Some wins.
    bars = [others(many, choice) for choice in number_choices(many, len(numbers) - 1)]
    return (numbers, bars)


def is_numbers(many, thing):
    """Whether a thing is a rising tuple of numbers, none twice, of so many from 0 on."""
    if not isinstance(thing, tuple):
        return False
    last = -1
    for number in thing:
        if not is_number_of(number, many) or number <= last:
            return False
        last = number
    return True


def have_none_in_common(one, other):
    """Whether two tuples have no number in common."""
    return not any([number in other for number in one])


def are_bars(kinds, lost, thing):
    """Whether a thing is a list of rows' numbers without which Some wins."""
    many = len(lost)
    if not isinstance(thing, list):
        return False
    for bar in thing:
        if not is_numbers(many, bar) or all_wins_by(kinds, lost, others(many, bar)):
            return False
    return True


def bar_all_fewer(many, size, bars):
    """Whether each choice of fewer rows than this size has none of some bar."""
    # The bar of a choice of one row fewer serves for whatever is less than this choice, too.
    for choice in number_choices(many, size - 1):
        if not any([have_none_in_common(bar, choice) for bar in bars]):
            return False
    return True


def is_fewest(claim, thing):
    """Whether a thing is (numbers, bars) as fewest_rows might tell them of the claim, which All wins."""
    if not isinstance(thing, tuple) or len(thing) != 2:
        return False
    lost = lost_plays(claim)
    if not is_numbers(len(lost), thing[0]) or not all_wins_by(claim[0], lost, thing[0]):
        return False
    return are_bars(claim[0], lost, thing[1]) and bar_all_fewer(len(lost), len(thing[0]), thing[1])
