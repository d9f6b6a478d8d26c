"""Names moved: how early a name of the winner may be chosen."""

from allsome.errors import NotWon
from allsome.games import winner


def name_moved(name, k, q):
    """The number of a name where name k has moved to place q."""
    if name == k:
        return q
    return name + 1 if q <= name < k else name


def literal_moved(literal, k, q):
    """The literal where name k has moved to place q."""
    name = name_moved(abs(literal), k, q)
    return name if literal > 0 else -name


def row_moved(row, k, q):
    """The row where name k has moved to place q, rising by its new names."""
    return tuple(sorted([literal_moved(literal, k, q) for literal in row], key=abs))


def moved(claim, k, q):
    """The claim with name k moved to place q, no greater than k."""
    kinds = claim[0]
    places = kinds[:q - 1] + (kinds[k - 1],) + kinds[q - 1:k - 1] + kinds[k:]
    return (places, tuple([row_moved(row, k, q) for row in claim[1]]))


def earliest(claim, k):
    """The least place to which name k may be moved so that its chooser wins still, refused with NotWon."""
    side = claim[0][k - 1]
    if winner(claim, ()) != side:
        raise NotWon(f"{side} does not win this claim")
    place = k
    # Who picks earlier knows less, so behind the first place at which it doesn't win there is no other.
    while place > 1 and winner(moved(claim, k, place - 1), ()) == side:
        place -= 1
    return place
