"""[10]: how many ends a tree has, and plans with fewest ends."""

import itertools
import random
import unittest

from allsome.fewest import ends, least_plan
from allsome.plans import is_plan, plan
from tests.helper import (
    SIDES, chance_claims, fewest_ends, great_claims, is_right_plan, picks_within, rows_over, some_claim, tiny_claims,
    trees,
)


def count(tree):
    """How many of kept or lost stand in a tree, by its words."""
    words = repr(tree)
    return words.count("'kept'") + words.count("'lost'")


class EndsTest(unittest.TestCase):
    def check(self, tree, many):
        told = ends(tree)
        self.assertIs(type(told), int)
        self.assertEqual(told, many, tree)

    def test_all_small_trees(self):
        for tree in trees(2, (0, 1, 19)):
            self.check(tree, count(tree))

    def test_trees_of_both_sides(self):
        self.check(("kept",), 1)
        self.check(("lost", 0), 1)
        self.check(("lost", 999), 1)
        self.check(("pick", True, ("kept",)), 1)
        self.check(("pick", False, ("lost", 1)), 1)
        self.check(("each", ("kept",), ("kept",)), 2)
        self.check(("each", ("lost", 3), ("pick", True, ("lost", 3))), 2)
        self.check(("each", ("each", ("kept",), ("kept",)), ("pick", True, ("kept",))), 3)
        self.check(("pick", True, ("each", ("lost", 0), ("each", ("lost", 1), ("lost", 2)))), 3)

    def test_deep_trees(self):
        for depth in range(9):
            self.check(picks_within(depth, "each"), 2 ** depth)
            self.check(picks_within(depth, "pick"), 1)

    def test_told_plans(self):
        for claim in chance_claims(41, 200) + great_claims(41):
            self.check(plan(claim)[1], count(plan(claim)[1]))


class LeastPlanTest(unittest.TestCase):
    def check(self, claim):
        told = least_plan(claim)
        self.assertIs(type(told), tuple)
        self.assertEqual(len(told), 3)
        self.assertIs(type(told[1]), int)
        self.assertEqual(told[:2], fewest_ends(claim), claim)
        self.assertEqual(count(told[2]), told[1], claim)
        self.assertTrue(is_right_plan(claim, told[0], told[2]), claim)
        self.assertIs(is_plan(claim, told[0], told[2]), True)
        self.assertLessEqual(told[1], count(plan(claim)[1]))
        return told

    def test_no_tree_has_fewer(self):
        small = trees(2, (0, 1))
        for claim in tiny_claims(2):
            told = self.check(claim)
            self.assertEqual(told[1], min(count(tree) for tree in small if is_right_plan(claim, told[0], tree)))

    def test_claims_by_chance(self):
        for claim in tiny_claims(3) + chance_claims(42, 400, 6, 12):
            self.check(claim)

    def test_of_none_to_eight_names(self):
        chance = random.Random(43)
        for many in range(9):
            for count_of_rows in (0, 1, many, 2 * many, 20):
                self.check(some_claim(chance, many, count_of_rows))

    def test_great_claims(self):
        self.assertEqual({self.check(claim)[0] for claim in great_claims(44)}, set(SIDES))

    def test_no_rows_and_the_empty_row(self):
        for many in range(9):
            for kind in SIDES:
                self.assertEqual(least_plan(((kind,) * many, ())), ("some", 1, ("kept",)))
                told = least_plan(((kind,) * many, ((), (1,)[:many])))
                self.assertEqual(told[:2], ("all", 1))
                self.check(((kind,) * many, ((), (1,)[:many])))

    def test_the_first_pick_that_wins_has_more_ends(self):
        # No wins for Some by asking on, yes wins at once; and the other way round.
        on = ((1, -2, 3), (1, 2, -3))
        self.assertEqual(least_plan((("some", "all", "some"), on)), ("some", 1, ("pick", True, ("kept",))))
        turned = tuple((-row[0],) + row[1:] for row in on)
        self.assertEqual(least_plan((("some", "all", "some"), turned)), ("some", 1, ("pick", False, ("kept",))))
        kinds = ("all", "some", "all")
        for sign in (1, -1):
            rows = ((sign, 2, 3), (sign, -2, 3), (-sign, 3))
            self.assertEqual(self.check((kinds, rows))[:2], ("all", 1))

    def test_both_truths_are_weighed(self):
        for sign in (1, -1):
            rows = tuple((sign, k, -k - 1) for k in (2, 4)) + tuple((sign, -k, k + 1) for k in (2, 4))
            rows += ((-sign, 2, -3), (-sign, -2, 3))
            told = self.check((("some", "all", "some", "all", "some"), rows))
            self.assertEqual(told[:2], ("some", 2))

    def test_all_full_rows(self):
        for kinds in itertools.product(SIDES, repeat=5):
            claim = (kinds, tuple(row for row in rows_over(5) if len(row) == 5))
            self.assertEqual(self.check(claim)[0], "all")


if __name__ == "__main__":
    unittest.main()
