"""[16]: full plans that win, and full plays that are kept, counted."""

import itertools
import random
import unittest

from allsome.counted import how_many_kept, how_many_plans
from allsome.games import winner
from allsome.spread import keeps
from tests.helper import (
    SIDES, TRUTHS, chance_claims, full_plan_wins, full_plays, great_claims, is_won_by_some, parts, plays, some_claim,
    tiny_claims,
)


def counted_back(claim, side):
    """How many full plans of the side win, by going back from the full plays."""
    kinds = claim[0]
    table = {}
    for play in reversed(plays(len(kinds))):
        if len(play) == len(kinds):
            table[play] = int(is_won_by_some(claim, play) is (side == "some"))
        else:
            no, yes = table[play + (False,)], table[play + (True,)]
            table[play] = no + yes if kinds[len(play)] == side else no * yes
    return table[()]


class PlansTest(unittest.TestCase):
    def check(self, claim, side, many):
        told = how_many_plans(claim, side)
        self.assertIs(type(told), int)
        self.assertEqual(told, many, (claim, side))
        self.assertEqual(told > 0, winner(claim, ()) == side, (claim, side))

    def test_against_all_full_plans(self):
        tried = {"all": 0, "some": 0}
        for claim in tiny_claims(3) + chance_claims(121, 300, 4, 6):
            for side in SIDES:
                many = len(parts(claim[0], side))
                if many <= 7:
                    every = itertools.product(TRUTHS, repeat=many)
                    count = sum(full_plan_wins(claim, side, plan) for plan in every)
                    self.check(claim, side, count)
                    tried[side] += count > 1
        self.assertGreater(min(tried.values()), 50)

    def test_some_s_are_those_that_keep_the_claim(self):
        for claim in chance_claims(122, 80, 4, 5):
            many = len(parts(claim[0], "some"))
            if many <= 6:
                every = itertools.product(TRUTHS, repeat=many)
                self.check(claim, "some", sum(keeps(claim, plan) for plan in every))

    def test_greater_claims(self):
        chance = random.Random(123)
        claims = great_claims(124) + [some_claim(chance, 8, 6, 0.3) for _ in range(20)]
        greatest = {"all": 0, "some": 0}
        for claim in claims:
            for side in SIDES:
                many = counted_back(claim, side)
                self.check(claim, side, many)
                greatest[side] = max(greatest[side], many)
        self.assertGreater(min(greatest.values()), 10 ** 4)

    def test_all_plans_win(self):
        for kinds in itertools.product(SIDES, repeat=5):
            self.check((kinds, ()), "some", 2 ** len(parts(kinds, "some")))
            self.check((kinds, ()), "all", 0)
            self.check((kinds, ((1, 2), ())), "all", 2 ** len(parts(kinds, "all")))
            self.check((kinds, ((1, 2), ())), "some", 0)

    def test_great_numbers(self):
        self.check((("all",) * 7 + ("some",), ()), "some", 2 ** 128)
        self.check((("some",) * 7 + ("all",), ((),)), "all", 2 ** 128)
        self.check((("all",) * 7 + ("some",), ((1, 8),)), "some", 2 ** 64)
        self.check((("all",) * 6 + ("some",) * 2, ((7, 8),)), "some", 3 ** 64)
        self.check((("some",) * 6 + ("all",) * 2, ((7, 8), (-7, 8))), "all", 2 ** 64)
        self.check((("some",) * 6 + ("all",) * 2, ((7,), (8,))), "all", 3 ** 64)

    def test_a_side_without_names(self):
        self.check(((), ()), "some", 1)
        self.check(((), ()), "all", 0)
        self.check(((), ((),)), "all", 1)
        self.check(((), ((),)), "some", 0)
        self.check((("all",), ()), "some", 1)
        self.check((("all",), ((1,),)), "some", 0)
        self.check((("all", "all"), ((1, 2),)), "all", 1)
        self.check((("some",), ((1,), (-1,))), "all", 1)
        self.check((("some",), ((1,),)), "all", 0)
        self.check((("some", "some"), ((1, 2),)), "some", 3)

    def test_by_hand(self):
        equal = ((1, -2), (-1, 2))
        self.check((("all", "some"), equal), "some", 1)
        self.check((("some", "all"), equal), "all", 1)
        self.check((("some", "all", "some"), ((1, 3), (-1, 2, 3))), "some", 2 + 1)


class KeptTest(unittest.TestCase):
    def check(self, claim, many):
        told = how_many_kept(claim)
        self.assertIs(type(told), int)
        self.assertEqual(told, many, claim)

    def test_against_all_full_plays(self):
        for claim in tiny_claims(3) + chance_claims(125, 300, 7, 12) + great_claims(126):
            self.check(claim, sum(is_won_by_some(claim, full) for full in full_plays(len(claim[0]))))

    def test_edges(self):
        self.check(((), ()), 1)
        self.check(((), ((),)), 0)
        for kinds in [("all",) * 8, ("some",) * 8, ("all", "some") * 4]:
            self.check((kinds, ()), 256)
            self.check((kinds, ((),)), 0)
            self.check((kinds, ((1,), (-1,))), 0)
            self.check((kinds, ((8,),)), 128)
            self.check((kinds, (tuple(range(1, 9)),)), 255)


if __name__ == "__main__":
    unittest.main()
