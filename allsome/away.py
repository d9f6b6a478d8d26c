"""Last names put away: what is left to be claimed of the names ahead."""

from allsome.errors import TooMany
from allsome.steps import both


def put_unlike(told, row, limit):
    """Puts a row to those told, refused with TooMany where these are more unlike ones than the limit."""
    told[row] = True
    if len(told) > limit:
        raise TooMany(f"more than {limit} rows")


def heads_with(rows, literal):
    """The rows whose last literal is this one, without it, each once."""
    told = {}
    for row in rows:
        if row[-1:] == (literal,):
            told[row[:-1]] = True
    return told


def rows_without(rows, name, limit):
    """The unlike rows where the last name, All's, is put away."""
    told = {}
    for row in rows:
        # Names rise in a row, so the last name can only stand last.
        has = row[-1:] in ((name,), (-name,))
        put_unlike(told, row[:-1] if has else row, limit)
    return told


def rows_joined(rows, name, limit):
    """The unlike rows where the last name, Some's, is put away."""
    told = {}
    for row in rows:
        if row[-1:] not in ((name,), (-name,)):
            put_unlike(told, row, limit)
    heads = heads_with(rows, -name)
    for one in heads_with(rows, name):
        for other in heads:
            row = both(one, other)
            if row is not None:
                put_unlike(told, row, limit)
    return told


def held_by(row):
    """All the rows that the row holds, but itself."""
    told = [()]
    for literal in row:
        told = told + [lesser + (literal,) for lesser in told]
    return told[:-1]


def last_put_away(claim, limit):
    """The claim with its last name put away, refused with TooMany."""
    name = len(claim[0])
    if claim[0][-1] == "all":
        rows = rows_without(claim[1], name, limit)
    else:
        rows = rows_joined(claim[1], name, limit)
    stay = [row for row in rows if not any([other in rows for other in held_by(row)])]
    return (claim[0][:-1], tuple(sorted(stay)))


def put_away(claim, many, limit):
    """The claim with so many last names put away, refused with TooMany where there are more rows than the limit."""
    told = claim
    for name in range(many):
        told = last_put_away(told, limit)
    return told
