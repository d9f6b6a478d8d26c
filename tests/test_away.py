"""[3], [14]: last names put away."""

import itertools
import random
import unittest

from allsome.away import put_away
from allsome.errors import ClaimError, TooMany
from allsome.games import winner
from tests.helper import (
    SIDES, chance_claims, great_claims, last_away, plays, rows_over, some_claim, tiny_claims, winners,
)


class PutAwayTest(unittest.TestCase):
    def check(self, claim):
        """All that is told of a claim with none to all of its names put away."""
        counts = []
        want = claim
        for many in range(len(claim[0]) + 1):
            if many > 0:
                unlike, want = last_away(want)
                counts.append(len(unlike))
            self.check_limits(claim, many, want, max(counts, default=0))

    def check_limits(self, claim, many, want, most):
        for limit in {1, 2, 20, 2000, most - 1, most, most + 1} & set(range(1, 2001)):
            if most > limit:
                with self.assertRaises(TooMany, msg=(claim, many, limit)) as caught:
                    put_away(claim, many, limit)
                self.assertIsInstance(caught.exception, ClaimError)
            else:
                self.assertEqual(put_away(claim, many, limit), want, (claim, many, limit))

    def check_winners(self, claim):
        table = winners(claim)
        for many in range(len(claim[0]) + 1):
            told = put_away(claim, many, 2000)
            for play in plays(len(claim[0]) - many):
                self.assertEqual(winner(told, play), table[play], (claim, many, play))

    def test_all_tiny_claims(self):
        for claim in tiny_claims(3):
            self.check(claim)
            self.check_winners(claim)

    def test_claims_by_chance(self):
        for claim in chance_claims(101, 300, 6, 14):
            self.check(claim)

    def test_the_winner_stays_from_each_beginning(self):
        for claim in chance_claims(102, 200):
            self.check_winners(claim)
        for claim in [some_claim(random.Random(seed), 8, 20) for seed in range(4)]:
            self.check_winners(claim)

    def test_great_claims(self):
        refused = 0
        for claim in great_claims(103):
            want = claim
            for many in range(9):
                if many > 0:
                    unlike, want = last_away(want)
                    if len(unlike) > 2000:
                        self.assertRaises(TooMany, put_away, claim, many, 2000)
                        refused += 1
                        break
                self.assertEqual(put_away(claim, many, 2000), want)
        self.assertLess(refused, 5)

    def test_none_put_away(self):
        rows = ((2,), (1,), (2,), (), (1, 2), ())
        for limit in (1, 2, 2000):
            self.assertEqual(put_away((("some", "all"), rows), 0, limit), (("some", "all"), rows))
            self.assertEqual(put_away(((), ((), ())), 0, limit), ((), ((), ())))
            self.assertEqual(put_away(((), ()), 0, limit), ((), ()))
        many = (("some",) * 8, tuple(rows_over(8)[:1000]) + ((1,),))
        self.assertEqual(put_away(many, 0, 1), many)

    def test_the_last_name_is_all_s(self):
        claim = (("some", "some", "all"), ((2, 3), (1, -2, -3), (-1,), (1, -2), (-1, -2, 3)))
        self.assertEqual(put_away(claim, 1, 2000), (("some", "some"), ((-1,), (1, -2), (2,))))
        self.assertEqual(put_away((("all",), ((1,),)), 1, 1), ((), ((),)))
        self.assertEqual(put_away((("all",), ()), 1, 1), ((), ()))

    def test_the_last_name_is_some_s(self):
        claim = (("all", "all", "some"), ((2, 3), (1, -3), (-1, -2), (-2, -3)))
        # (2, 3) and (-2, -3) have name 2 both ways.
        self.assertEqual(put_away(claim, 1, 2000), (("all", "all"), ((-1, -2), (1, 2))))
        self.assertEqual(put_away((("some",), ((1,),)), 1, 1), ((), ()))
        self.assertEqual(put_away((("some",), ((1,), (-1,))), 1, 1), ((), ((),)))
        self.assertEqual(put_away((("some", "some"), ((1, 2),)), 1, 1), (("some",), ()))

    def test_sorted_as_python_sorts(self):
        claim = (("some", "some", "some", "all"), ((3,), (2, -3), (-2, 3, 4), (1, -2), (-1, 2, -4)))
        rows = put_away(claim, 1, 2000)[1]
        self.assertEqual(rows, ((-1, 2), (1, -2), (2, -3), (3,)))

    def test_like_rows_once_and_those_that_hold_others_left_out(self):
        claim = (("some", "some", "all"), ((1, 3), (1, -3), (1,), (1, 2), (1, -2, 3), (2, 3)))
        self.assertEqual(put_away(claim, 1, 2000), (("some", "some"), ((1,), (2,))))
        # A row that holds one that is left out itself holds another one, too.
        claim = (("some",) * 3 + ("all",), ((1, 2, 3), (1, 2), (1, 4)))
        self.assertEqual(put_away(claim, 1, 2000), (("some",) * 3, ((1,),)))
        claim = (("some", "some", "all"), ((1, 2), (), (-2, 3)))
        self.assertEqual(put_away(claim, 1, 2000), (("some", "some"), ((),)))
        # Opposite literals are not held.
        claim = (("some", "some", "all"), ((1, 2), (-1,), (1, -2)))
        self.assertEqual(put_away(claim, 1, 2000), (("some", "some"), ((-1,), (1, -2), (1, 2))))

    def test_the_limit_counts_unlike_rows_before_any_is_left_out(self):
        # Three unlike rows, two of which hold the third.
        claim = (("some", "some", "all"), ((1, 2), (1, -2), (1, 3), (1, 2, 3), (1, -3), (1, -2)))
        self.assertEqual(put_away(claim, 1, 3), (("some", "some"), ((1,),)))
        self.assertRaises(TooMany, put_away, claim, 1, 2)
        # Joined rows that are alike count once; those with a name both ways not at all.
        claim = (("all", "all", "some"), ((1, 3), (1, -3), (2, 3), (2, -3), (-1, -3)))
        self.assertEqual(put_away(claim, 1, 4), (("all", "all"), ((1,), (2,))))
        self.assertRaises(TooMany, put_away, claim, 1, 3)

    def test_the_limit_of_each_name_put_away(self):
        # The first name put away leaves few rows, the second makes more; and the other way round.
        rows = tuple((sign * k, 4) for k in (1, 2, 3) for sign in (1, -1)) + ((-4, 5), (1, -4, -5))
        self.check((("all", "all", "all", "some", "all"), rows))
        more = (("all", "all", "all", "some", "all"), rows)
        counts = []
        while len(more[0]) > 0:
            unlike, more = last_away(more)
            counts.append(len(unlike))
        self.assertGreater(len(set(counts)), 2)

    def test_rows_that_are_alike_only_when_put_away(self):
        claim = (("some", "all"), ((1, 2), (1, -2), (1,)) * 300)
        self.assertEqual(put_away(claim, 1, 1), (("some",), ((1,),)))
        self.assertEqual(put_away(claim, 2, 1), ((), ()))

    def test_all_names_put_away(self):
        for claim in tiny_claims(2) + chance_claims(104, 200):
            if len(claim[0]) > 0:
                left = ((), ()) if winners(claim)[()] == "some" else ((), ((),))
                self.assertEqual(put_away(claim, len(claim[0]), 2000), left, claim)

    def test_name_by_name(self):
        for claim in chance_claims(105, 150, 6, 10):
            for many in range(1, len(claim[0]) + 1):
                told = put_away(claim, many - 1, 2000)
                self.assertEqual(put_away(claim, many, 2000), put_away(told, 1, 2000))

    def test_great_limits(self):
        full = [row for row in rows_over(8) if len(row) == 7]
        for kind in SIDES:
            for kinds in [("some",) * 7 + (kind,), ("all",) * 7 + (kind,)]:
                claim = (kinds, tuple(full[::2] + full[1::3])[:1000])
                unlike, want = last_away(claim)
                self.check_limits(claim, 1, want, len(unlike))
        for count, limit in itertools.product((1, 19, 20, 21, 999, 1000), (1, 20, 999, 1000, 2000)):
            claim = (("some",) * 7 + ("all",), tuple(rows_over(7)[:count]))
            unlike, want = last_away(claim)
            self.assertEqual(len(unlike), count)
            self.check_limits(claim, 1, want, count)
            if count > limit:
                self.assertRaises(TooMany, put_away, claim, 1, limit)

    def test_kinds_of_what_is_told(self):
        for claim in chance_claims(106, 50):
            told = put_away(claim, len(claim[0]) // 2, 2000)
            self.assertIs(type(told), tuple)
            self.assertEqual([type(part) for part in told], [tuple, tuple])
            self.assertEqual({type(row) for row in told[1]} - {tuple}, set())


if __name__ == "__main__":
    unittest.main()
