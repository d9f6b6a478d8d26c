"""Who wins a play, by which picks, and where two claims of the same kinds part.

The searches go by the rows that aren't kept: a dict from each one's open
literals (under the claim's own names) to the number of a row that has just
these. Rows that have become alike stand there once, so also a claim of a
thousand rows is soon small.
"""

from allsome.claims import TRUTHS


def first_numbers(rows):
    """The rows of a claim before any pick, each with the number where it first stands."""
    told = {}
    for number, row in enumerate(rows):
        told.setdefault(row, number)
    return told


def rows_behind(rows, name, truth):
    """The rows that aren't kept when the first open name, too, is picked."""
    right = name if truth else -name
    told = {}
    for row in rows:
        # Names rise in a row and those ahead are gone, so this name can only stand first.
        first = row[0] if row else 0
        if first == -right:
            told.setdefault(row[1:], rows[row])
        elif first != right:
            told.setdefault(row, rows[row])
    return told


def rows_behind_play(rows, play):
    """The rows of a claim that aren't kept in the play."""
    told = first_numbers(rows)
    for name, truth in enumerate(play, start=1):
        told = rows_behind(told, name, truth)
    return told


def other_side(side):
    """The one who plays against this one."""
    return "all" if side == "some" else "some"


def winner_behind(kinds, rows, many):
    """Who wins when so many names are picked and these rows aren't kept."""
    # A lost row stays lost and kept rows stay kept, whatever is picked behind.
    if () in rows:
        return "all"
    if len(rows) == 0:
        return "some"
    who = kinds[many]
    for truth in TRUTHS:
        if winner_behind(kinds, rows_behind(rows, many + 1, truth), many + 1) == who:
            return who
    return other_side(who)


def winner(claim, play):
    """Who wins the play, "some" or "all"."""
    return winner_behind(claim[0], rows_behind_play(claim[1], play), len(play))


def good_picks(claim, play):
    """The truths by which who picks next comes to a play that this one wins."""
    if len(play) == len(claim[0]):
        return []
    who = claim[0][len(play)]
    return [truth for truth in TRUTHS if winner(claim, play + (truth,)) == who]


def one_pick_more(kinds, level):
    """The level of plays with a pick more, least first, each with both claims' rows behind it."""
    told = []
    for play, rows, others in level:
        if len(play) < len(kinds):
            name = len(play) + 1
            for truth in TRUTHS:
                told.append((play + (truth,), rows_behind(rows, name, truth), rows_behind(others, name, truth)))
    return told


def parted(one, other):
    """The play of fewest picks, the least of these, with unlike winners in both claims, or None."""
    kinds = one[0]
    level = [((), first_numbers(one[1]), first_numbers(other[1]))]
    while len(level) > 0:
        for play, rows, others in level:
            if winner_behind(kinds, rows, len(play)) != winner_behind(kinds, others, len(play)):
                return play
        level = one_pick_more(kinds, level)
    return None
