"""[3], [9]: plans, told and looked over."""

import unittest

from allsome.claims import left
from allsome.games import winner
from allsome.plans import is_plan, plan
from tests.helper import (
    SIDES, THINGS, chance_claims, great_claims, is_right_plan, picks_within, plays, tiny_claims, trees, winners,
)

EQUAL = (("all", "some"), ((1, -2), (-1, 2)))
EQUAL_TREE = ("each", ("pick", False, ("kept",)), ("pick", True, ("kept",)))
UNEQUAL = (("some", "all"), ((1, -2), (-1, 2)))
UNEQUAL_TREE = ("each", ("lost", 0), ("lost", 1))


def other(side):
    return "some" if side == "all" else "all"


def goes_on(claim, side, tree, play=()):
    """The same plan, going on to the full plays where it might have ended."""
    if len(play) == len(claim[0]):
        return tree
    if tree[0] == "pick":
        return ("pick", tree[1], goes_on(claim, side, tree[2], play + (tree[1],)))
    if tree[0] == "each":
        return ("each",) + tuple(goes_on(claim, side, tree[1 + t], play + (t,)) for t in (False, True))
    name = len(play) + 1
    if claim[0][name - 1] == side:
        # An open literal of a row that All loses is to be picked wrong.
        truth = tree[0] == "lost" and -name in claim[1][tree[1]]
        return ("pick", truth, goes_on(claim, side, tree, play + (truth,)))
    return ("each",) + tuple(goes_on(claim, side, tree, play + (t,)) for t in (False, True))


class PlanTest(unittest.TestCase):
    def check(self, claim, who):
        told = plan(claim)
        self.assertIs(type(told), tuple)
        self.assertEqual(len(told), 2)
        self.assertEqual(told[0], who, claim)
        self.assertTrue(is_right_plan(claim, who, told[1]), (claim, told))
        self.assertIs(is_plan(claim, who, told[1]), True, (claim, told))
        self.assertIs(is_plan(claim, other(who), told[1]), False, (claim, told))
        longer = goes_on(claim, who, told[1])
        self.assertTrue(is_right_plan(claim, who, longer), (claim, longer))
        self.assertIs(is_plan(claim, who, longer), True, (claim, longer))
        self.assertIs(is_plan(claim, other(who), longer), False, (claim, longer))

    def test_all_tiny_claims(self):
        for claim in tiny_claims(3):
            self.check(claim, winners(claim)[()])

    def test_claims_by_chance(self):
        for claim in chance_claims(21, 300):
            self.check(claim, winners(claim)[()])

    def test_great_claims(self):
        won = {}
        for claim in great_claims(22):
            who = winners(claim)[()]
            self.check(claim, who)
            won[who] = True
        self.assertEqual(set(won), set(SIDES))

    def test_from_each_beginning(self):
        for claim in chance_claims(23, 60):
            table = winners(claim)
            for play in plays(len(claim[0])):
                self.check(left(claim, play), table[play])
                self.assertEqual(winner(claim, play), table[play])

    def test_edges(self):
        self.assertEqual(plan(((), ())), ("some", ("kept",)))
        self.assertEqual(plan(((), ((),))), ("all", ("lost", 0)))
        self.check((("all",) * 8, ()), "some")
        self.check((("some",) * 8, ((1,), ())), "all")
        self.check((("some",) * 8, tuple((k,) for k in range(1, 9))), "some")
        self.check((("all",) * 8, (tuple(range(1, 9)),)), "all")

    def test_a_plan_has_tuples_and_truths_and_numbers(self):
        def look(tree):
            self.assertIs(type(tree), tuple)
            self.assertIs(type(tree[0]), str)
            if tree[0] == "lost":
                self.assertIs(type(tree[1]), int)
            if tree[0] == "pick":
                self.assertIs(type(tree[1]), bool)
                look(tree[2])
            if tree[0] == "each":
                look(tree[1])
                look(tree[2])
        for claim in chance_claims(24, 100) + great_claims(24):
            look(plan(claim)[1])


class IsPlanTest(unittest.TestCase):
    def check(self, claim, side, thing, answer):
        self.assertIs(is_plan(claim, side, thing), answer, (claim, side, repr(thing)[:200]))

    def test_all_trees_of_tiny_claims(self):
        small = trees(2, (-1, 0, 1, 2))[::7] + trees(2, (0, 1))
        for claim in tiny_claims(2)[::3]:
            for side in SIDES:
                for tree in small:
                    self.check(claim, side, tree, is_right_plan(claim, side, tree))

    def test_one_side_alone_has_a_plan(self):
        small = trees(2, (0, 1))
        for claim in tiny_claims(2):
            have = {side for side in SIDES for tree in small if is_plan(claim, side, tree)}
            self.assertEqual(have, {winner(claim, ())})

    def test_the_two_trees(self):
        self.check(EQUAL, "some", EQUAL_TREE, True)
        self.check(EQUAL, "all", EQUAL_TREE, False)
        self.check(UNEQUAL, "all", ("each", ("lost", 1), ("lost", 0)), False)
        self.check(UNEQUAL, "all", UNEQUAL_TREE, True)
        self.check(UNEQUAL, "some", UNEQUAL_TREE, False)

    def test_plans_that_go_on(self):
        free = (("some", "all"), ((1,),))
        self.check(free, "some", ("pick", True, ("kept",)), True)
        self.check(free, "some", ("pick", True, ("each", ("kept",), ("kept",))), True)
        on = ("each", ("pick", True, ("lost", 0)), ("pick", False, ("lost", 1)))
        self.check(UNEQUAL, "all", on, True)
        self.check((("all", "some"), ()), "some", ("each", ("pick", True, ("kept",)), ("kept",)), True)
        self.check((("all",), ((1,),)), "all", ("lost", 0), True)
        self.check((("all",), ((1,),)), "all", ("pick", False, ("lost", 0)), True)
        self.check((("all",), ((1,),)), "all", ("pick", True, ("lost", 0)), False)

    def test_an_end_too_early(self):
        self.check(EQUAL, "some", ("kept",), False)
        self.check(EQUAL, "some", ("each", ("kept",), ("pick", True, ("kept",))), False)
        self.check(UNEQUAL, "all", ("lost", 0), False)
        self.check((("all", "some"), ((1, 2),)), "all", ("pick", False, ("lost", 0)), False)

    def test_a_lost_row_that_is_kept(self):
        self.check((("all",), ((1,), (-1,))), "all", ("pick", True, ("lost", 0)), False)
        self.check((("all",), ((1,), (-1,))), "all", ("pick", True, ("lost", 1)), True)

    def test_a_pick_turned(self):
        self.check(EQUAL, "some", ("each", ("pick", True, ("kept",)), ("pick", True, ("kept",))), False)
        self.check(EQUAL, "some", ("each", ("pick", False, ("kept",)), ("pick", False, ("kept",))), False)

    def test_trees_exchanged(self):
        self.check(EQUAL, "some", ("each", EQUAL_TREE[2], EQUAL_TREE[1]), False)
        self.check(EQUAL, "some", EQUAL_TREE[1], False)

    def test_pick_and_each_by_who_picks(self):
        self.check((("all",), ()), "some", ("pick", True, ("kept",)), False)
        self.check((("all",), ()), "some", ("each", ("kept",), ("kept",)), True)
        self.check((("some",), ()), "some", ("each", ("kept",), ("kept",)), False)
        self.check((("some",), ()), "some", ("pick", False, ("kept",)), True)
        self.check((("some",), ((),)), "all", ("pick", True, ("lost", 0)), False)
        self.check((("all",), ((),)), "all", ("each", ("lost", 0), ("lost", 0)), False)

    def test_rows_numbers(self):
        claim = ((), ((), ()))
        self.check(claim, "all", ("lost", 0), True)
        self.check(claim, "all", ("lost", 1), True)
        for number in [2, 3, 1000, 10 ** 29, -1, -2, -10 ** 29, True, False, None, "0", "", (), (0,), [], [0]]:
            self.check(claim, "all", ("lost", number), False)
        self.check((("all",), ((1,), (-1,))), "all", ("pick", False, ("lost", 1)), False)
        many = (("all",), ((),) * 1000)
        self.check(many, "all", ("lost", 999), True)
        self.check(many, "all", ("lost", 1000), False)

    def test_what_is_no_truth(self):
        claim = (("some",), ())
        for thing in [0, 1, None, "", "True", "y", (), (True,), [True]]:
            self.check(claim, "some", ("pick", thing, ("kept",)), False)
        self.check(claim, "some", ("pick", True, ("kept",)), True)

    def test_lists_in_the_place_of_tuples(self):
        self.check(((), ()), "some", ["kept"], False)
        self.check(((), ((),)), "all", ["lost", 0], False)
        self.check((("some",), ()), "some", ["pick", True, ("kept",)], False)
        self.check((("some",), ()), "some", ("pick", True, ["kept"]), False)
        self.check((("all",), ()), "some", ["each", ("kept",), ("kept",)], False)
        self.check((("all",), ()), "some", ("each", ("kept",), ["kept"]), False)
        self.check((("all",), ()), "some", ("each", ["kept"], ("kept",)), False)
        self.check((("all",), ()), "some", ("each", [("kept",), ("kept",)]), False)

    def test_a_part_more_or_fewer(self):
        self.check(((), ()), "some", (), False)
        self.check(((), ()), "some", ("kept", None), False)
        self.check(((), ()), "some", ("kept", 0), False)
        self.check(((), ((),)), "all", ("lost",), False)
        self.check(((), ((),)), "all", ("lost", 0, 0), False)
        self.check((("some",), ((),)), "all", ("lost", 0, 0), False)
        self.check((("some",), ()), "some", ("pick", True), False)
        self.check((("some",), ()), "some", ("pick", True, ("kept",), ("kept",)), False)
        self.check((("all",), ()), "some", ("each", ("kept",)), False)
        self.check((("all",), ()), "some", ("each", ("kept",), ("kept",), ("kept",)), False)

    def test_another_word(self):
        for word in ["", "Kept", "kept ", "keep", "lost", "all", "some", "+", 0, None, (), []]:
            self.check(((), ()), "some", (word,), False)
            self.check(((), ((),)), "all", (word, 0), word == "lost")
            self.check((("some",), ()), "some", (word, True, ("kept",)), False)
            self.check((("all",), ()), "some", (word, ("kept",), ("kept",)), False)

    def test_deeper_than_there_are_names(self):
        for word, kind in (("pick", "some"), ("each", "all")):
            for many in range(9):
                for depth in (many, many + 1, 12):
                    self.check(((kind,) * many, ()), "some", picks_within(depth, word), depth <= many)
        self.check((("some",) * 8, ()), "some", picks_within(19, "pick"), False)

    def test_other_things(self):
        claims = [((), ()), ((), ((),)), (("some",), ()), (("all",), ()), EQUAL, UNEQUAL, (("all",) * 8, ((),) * 20)]
        for thing in THINGS:
            for claim in claims:
                for side in SIDES:
                    self.check(claim, side, thing, False)
                    self.check(claim, side, ("pick", True, thing), False)
                    self.check(claim, side, ("each", thing, ("kept",)), False)
                    self.check(claim, side, ("each", ("lost", 0), thing), False)


if __name__ == "__main__":
    unittest.main()
