"""[3], [17]: names moved, and how early a name of the winner may be chosen."""

import itertools
import random
import unittest

from allsome.claims import is_claim
from allsome.errors import ClaimError, NotWon
from allsome.games import winner
from allsome.moved import earliest, moved
from tests.helper import (
    SIDES, chance_claims, full_plays, great_claims, is_won_by_some, rows_over, some_claim, tiny_claims, winner_of,
)


def in_order(claim, order):
    """The claim with its names in another order: a list of the old numbers."""
    places = {name: place for place, name in enumerate(order, start=1)}
    rows = []
    for row in claim[1]:
        signs = {places[abs(literal)]: 1 if literal > 0 else -1 for literal in row}
        rows.append(tuple(place * signs[place] for place in sorted(signs)))
    return (tuple(claim[0][name - 1] for name in order), tuple(rows))


def order_moved(many, k, q):
    """The old numbers in their order where name k stands as name q."""
    order = [name for name in range(1, many + 1) if name != k]
    order.insert(q - 1, k)
    return order


def slow_moved(claim, k, q):
    """The claim with name k moved to place q."""
    return in_order(claim, order_moved(len(claim[0]), k, q))


def tied_claim(chance, side):
    """A claim of six names in which names of the side must be picked like others ahead of them."""
    other = "some" if side == "all" else "all"
    kinds = (other, side) + tuple(chance.choice(SIDES) for _ in range(4))
    rows = [(1, -2), (-1, 2)]
    if side == "some":
        kinds = (other, side) * 3
        rows += [(3, -4), (-3, 4), (5, -6), (-5, 6)]
    order = list(range(1, 7))
    chance.shuffle(order)
    return in_order((kinds, tuple(rows)), order)


class MovedTest(unittest.TestCase):
    def check(self, claim):
        many = len(claim[0])
        for k in range(1, many + 1):
            self.assertEqual(moved(claim, k, k), claim)
            for q in range(1, k + 1):
                self.assertEqual(moved(claim, k, q), slow_moved(claim, k, q), (claim, k, q))

    def test_all_tiny_claims(self):
        for claim in tiny_claims(3):
            self.check(claim)

    def test_claims_by_chance(self):
        for claim in chance_claims(201, 200, 8, 20):
            self.check(claim)

    def test_great_claims(self):
        for claim in great_claims(202)[::2]:
            self.check(claim)

    def test_by_hand(self):
        claim = (("all", "some", "all", "some"), ((1, -2, 3, -4), (-1, 4), (2, 3), (), (-3,), (3,), (3,)))
        self.assertEqual(moved(claim, 3, 1), (
            ("all", "all", "some", "some"), ((1, 2, -3, -4), (-2, 4), (1, 3), (), (-1,), (1,), (1,))))
        self.assertEqual(moved(claim, 4, 2), (
            ("all", "some", "some", "all"), ((1, -2, -3, 4), (-1, 2), (3, 4), (), (-4,), (4,), (4,))))
        self.assertEqual(moved(claim, 4, 1), (
            ("some", "all", "some", "all"), ((-1, 2, -3, 4), (1, -2), (3, 4), (), (-4,), (4,), (4,))))
        self.assertEqual(moved((("some",), ((1,),)), 1, 1), (("some",), ((1,),)))

    def test_all_rows_rise_by_their_new_names(self):
        claim = (("all", "some") * 2, tuple(rows_over(4)))
        for k in range(1, 5):
            for q in range(1, k + 1):
                for row in moved(claim, k, q)[1]:
                    names = [abs(literal) for literal in row]
                    self.assertEqual(names, sorted(names))

    def test_a_full_play_moved_likewise_is_kept_likewise(self):
        for claim in chance_claims(203, 60, 5, 8):
            many = len(claim[0])
            for k in range(1, many + 1):
                for q in range(1, k + 1):
                    told = moved(claim, k, q)
                    for full in full_plays(many):
                        likewise = tuple(full[name - 1] for name in order_moved(many, k, q))
                        self.assertEqual(is_won_by_some(told, likewise), is_won_by_some(claim, full))

    def test_what_is_told_is_a_claim(self):
        for claim in chance_claims(204, 100, 8, 20):
            for k in range(1, len(claim[0]) + 1):
                self.assertIs(is_claim(moved(claim, k, 1)), True)


class EarliestTest(unittest.TestCase):
    def check(self, claim):
        """All that is told of each name, the winner found by going back."""
        side = winner_of(claim)
        for k, kind in enumerate(claim[0], start=1):
            if kind != side:
                with self.assertRaises(NotWon, msg=(claim, k)) as caught:
                    earliest(claim, k)
                self.assertIsInstance(caught.exception, ClaimError)
                continue
            won = [q for q in range(1, k + 1) if winner_of(slow_moved(claim, k, q)) == side]
            told = earliest(claim, k)
            self.assertIs(type(told), int)
            self.assertEqual(told, min(won), (claim, k))
            self.assertEqual(won, list(range(told, k + 1)), (claim, k))
            self.early += told < k
            self.stopped += told > 1

    def setUp(self):
        self.early = self.stopped = 0

    def test_all_tiny_claims(self):
        for claim in tiny_claims(3):
            self.check(claim)

    def test_claims_by_chance(self):
        for claim in chance_claims(205, 200, 6, 10):
            self.check(claim)

    def test_names_tied_to_others(self):
        chance = random.Random(209)
        for side in SIDES * 200:
            self.check(tied_claim(chance, side))
        self.assertGreater(min(self.early, self.stopped), 100)

    def test_claims_of_eight_names(self):
        chance = random.Random(206)
        for claim in [some_claim(chance, 8, count, 0.5) for count in (6, 9, 12, 16, 20, 21, 40)]:
            self.check(claim)

    def test_great_claims(self):
        for claim in great_claims(207)[6:]:
            self.check(claim)
        self.assertGreater(self.stopped, 0)

    def test_without_rows_and_with_the_empty_row(self):
        for many in range(1, 9):
            for kinds in [("all",) * many, ("some",) * many, (("all", "some") * 4)[:many], (("some", "all") * 4)[:many]]:
                for rows, side in (((), "some"), (((),), "all"), (((1,), ()), "all")):
                    for k in range(1, many + 1):
                        if kinds[k - 1] == side:
                            self.assertEqual(earliest((kinds, rows), k), 1)
                        else:
                            self.assertRaises(NotWon, earliest, (kinds, rows), k)

    def test_by_hand(self):
        equal = ((1, -2), (-1, 2))
        self.assertEqual(earliest((("all", "some"), equal), 2), 2)
        self.assertEqual(earliest((("some", "all"), equal), 2), 2)
        self.assertEqual(earliest((("some", "some"), equal), 2), 1)
        self.assertRaises(NotWon, earliest, (("all", "some"), equal), 1)
        # Some must know name 2, but neither name 1 nor name 3.
        claim = (("all", "all", "all", "some"), ((2, -4), (-2, 4)))
        self.assertEqual(earliest(claim, 4), 3)

    def test_each_place(self):
        # Name 8 must be picked like name k, so it may stand right behind it.
        for side, other in (("some", "all"), ("all", "some")):
            for k in range(1, 8):
                claim = ((other,) * 7 + (side,), ((k, -8), (-k, 8)))
                self.assertEqual(earliest(claim, 8), k + 1)

    def test_names_of_the_same_chooser_ahead(self):
        for kinds in itertools.product(SIDES, repeat=4):
            claim = (kinds + ("some",), ((1, -5), (-1, 5), (2, 3, 4)))
            self.check(claim)

    def test_the_winner_is_told_with_the_name_at_its_place(self):
        for claim in chance_claims(208, 200, 6, 8):
            side = winner(claim, ())
            for k, kind in enumerate(claim[0], start=1):
                if kind == side:
                    place = earliest(claim, k)
                    for q in range(1, k + 1):
                        self.assertEqual(winner(moved(claim, k, q), ()) == side, q >= place)


if __name__ == "__main__":
    unittest.main()
