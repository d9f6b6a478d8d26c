"""[3], [19], [20]: great claims of pairs, and what is told of them."""

import itertools
import random
import unittest

from allsome.claims import is_claim
from allsome.games import winner
from allsome.pairs import is_pairs, told_pairs
from tests.helper import (
    SIDES, THINGS, along, chance_pairs, is_right_told, kept_pairs, long_roads, rows_over, winner_of,
)

# Claims in which All has just one of the four, by its word.
ONE_OF_FOUR = [
    ((("some",), ((1,), ())), "empty"), (((), ((),)), "empty"), ((("all",), ((), ())), "empty"),
    ((("some",), ((1,), (-1,))), "turn"),
    ((("some", "some"), ((1, 2), (1, -2), (-1, 2), (-1, -2))), "turn"),
    ((("all", "some", "some"), ((2, 3), (2, -3), (-2, 3), (-2, -3))), "turn"),
    ((("some", "all"), ((1, -2), (-1, 2))), "early"),
    ((("some", "all"), ((1, 2), (-1, -2))), "early"),
    ((("some", "all", "some"), ((1, -3), (-1, 3), (2, -3), (-2, 3))), "early"),
    ((("all",), ((1,),)), "meet"), ((("all",), ((-1,),)), "meet"),
    ((("all", "all"), ((1, 2),)), "meet"), ((("all", "all"), ((1, -2),)), "meet"),
    ((("all", "all", "some"), ((-1, 3), (2, -3))), "meet"),
    ((("all", "some"), ((1, 2), (1, -2))), "meet"),
]


class IsPairsTest(unittest.TestCase):
    def check(self, thing, answer):
        self.assertIs(is_pairs(thing), answer, str(thing)[:300])

    def test_pairs_claims(self):
        self.check(((), ()), True)
        self.check(((), ((),)), True)
        self.check((("all",), ()), True)
        self.check((("some",), ((1,), (-1,), (), (1,))), True)
        self.check((("some", "all"), ((1, 2), (-1, 2), (1, -2), (-1, -2))), True)
        self.check((("some",) * 8, ((7, 8),) * 20), True)

    def test_claims_by_chance(self):
        chance = random.Random(231)
        for _ in range(300):
            self.check(chance_pairs(chance, 200, 600), True)

    def test_claims_of_all_rows(self):
        for row in rows_over(4):
            self.check((("all", "some") * 2, (row,)), len(row) <= 2)
            self.check((("all", "some") * 2, ((1, 2), row)), len(row) <= 2)

    def test_both_bounds(self):
        for kind in SIDES:
            self.check(((kind,) * 200, ()), True)
            self.check(((kind,) * 200, ((199, -200), (-200,), ())), True)
            self.check(((kind,) * 200, ((199, -200),) * 600), True)
            self.check(((kind,) * 201, ()), False)
            self.check(((kind,) * 201, ((1, 2),)), False)
            self.check(((kind,) * 200, ((199, -200),) * 601), False)
            self.check((((kind,) * 199), ((199, -200),)), False)
        self.check(((), ((),) * 600), True)
        self.check(((), ((),) * 601), False)
        self.check((("all",) * 7000, ()), False)
        self.check(((), ((),) * 6900), False)

    def test_rows_that_are_none(self):
        for row in [(1, 2, 3), (-1, 2, -3), (1, 1), (1, -1), (-2, -2), (2, 1), (-3, 1), (4,), (-4,), (1, 4), (0,),
                    (0, 1), (0, 0), (True,), (False,), (1, True), (True, 2), [1, 2], [1], [], "1", "", 1, None, True,
                    (None,), ("1",), ((1,),), ([1],), (1, "2"), (10 ** 29,), (1, 2, 3, 1)]:
            self.check((("some", "all", "some"), (row,)), False)
            self.check((("some", "all", "some"), ((1, 2), row, (3,))), False)

    def test_kinds_that_are_none(self):
        for kind in ["", "All", "some ", "none", "a", 0, 1, None, True, (), ("all",), ["all"]]:
            self.check(((kind,), ()), False)
            self.check((("all", kind), ((1,),)), False)
        for kinds in [["all"], [], "all", "", None, 0, True, {}]:
            self.check((kinds, ()), False)

    def test_lists_in_the_place_of_tuples(self):
        self.check([("some",), ((1,),)], False)
        self.check((["some"], ((1,),)), False)
        self.check((("some",), [(1,)]), False)
        self.check((("some",), ([1],)), False)

    def test_a_part_more_or_fewer(self):
        for thing in [(), (("some",),), (("some",), (), ()), (("some",), ((1,),), None), ((1,), ("some",))]:
            self.check(thing, False)

    def test_other_things(self):
        for thing in THINGS:
            self.check(thing, False)
            self.check((thing, ()), thing in [("all",), ("some", "all")])
            self.check(((thing,), ()), thing in ["all", "some"])
            self.check((("some",), (thing,)), thing == (1,) and type(thing[0]) is int)

    def test_small_ones_are_claims(self):
        chance = random.Random(232)
        for _ in range(200):
            claim = chance_pairs(chance, 8, 20)
            self.assertIs(is_claim(claim), True)
            self.check(claim, True)


class ToldPairsTest(unittest.TestCase):
    def check(self, claim):
        self.assertIs(is_pairs(claim), True)
        told = told_pairs(claim)
        self.assertIs(type(told), tuple)
        self.assertEqual(len(told), 2)
        self.assertIs(type(told[1]), tuple)
        self.assertTrue(is_right_told(claim, told), str((claim, told))[:1000])
        if told[0] == "all":
            self.check_roads(claim, told[1])
        else:
            self.check_rule(claim, told[1])
        return told

    def check_roads(self, claim, why):
        self.assertIn(why[0], ("empty", "turn", "early", "meet"))
        if why[0] == "empty":
            self.assertIs(type(why[1]), int)
            self.assertEqual(len(why), 2)
        else:
            self.assertEqual([type(road) for road in why[1:]], [list] * (1 if why[0] == "meet" else 2))
            self.assertTrue(all(type(literal) is int for road in why[1:] for literal in road))
            self.assertTrue(all(len(road) >= 2 for road in why[1:]))

    def check_rule(self, claim, rule):
        self.assertEqual(len(rule), len(claim[0]))
        for k, (kind, told) in enumerate(zip(claim[0], rule), start=1):
            if kind == "all":
                self.assertIsNone(told)
            elif type(told) is not bool:
                self.assertIs(type(told), int)
                self.assertEqual(claim[0][abs(told) - 1], "all")
                self.assertTrue(1 <= abs(told) < k)

    def test_all_claims_of_two_names(self):
        for kinds in itertools.product(SIDES, repeat=2):
            rows = rows_over(2)
            for size in range(4):
                for some in itertools.combinations(rows, size):
                    self.assertEqual(self.check((kinds, some))[0], winner_of((kinds, some)))

    def test_small_claims(self):
        chance = random.Random(233)
        seen = {}
        for _ in range(3000):
            claim = chance_pairs(chance, 6, 12, chance.choice((0.2, 0.4, 0.6)))
            told = self.check(claim)
            self.assertEqual(told[0], winner_of(claim), claim)
            word = told[1][0] if told[0] == "all" else any(type(part) is int for part in told[1])
            seen[word] = seen.get(word, 0) + 1
        self.assertEqual(set(seen), {"empty", "turn", "early", "meet", True, False})
        self.assertGreater(min(seen.values()), 10)

    def test_claims_of_eight_names(self):
        chance = random.Random(234)
        for _ in range(200):
            claim = chance_pairs(chance, 8, 16, 0.3)
            self.assertEqual(self.check(claim)[0], winner(claim, ()), claim)

    def test_each_of_the_four(self):
        for claim, word in ONE_OF_FOUR:
            told = self.check(claim)
            self.assertEqual((told[0], told[1][0]), ("all", word), claim)
            self.assertEqual(winner_of(claim), "all")

    def test_by_hand(self):
        self.assertEqual(told_pairs(((), ())), ("some", ()))
        self.assertEqual(told_pairs((("all",), ())), ("some", (None,)))
        self.assertEqual(told_pairs((("some",), ((1,),))), ("some", (True,)))
        self.assertEqual(told_pairs((("some",), ((-1,),))), ("some", (False,)))
        self.assertEqual(told_pairs((("all", "some"), ((1, -2), (-1, 2)))), ("some", (None, 1)))
        self.assertEqual(told_pairs((("all", "some"), ((1, 2), (-1, -2)))), ("some", (None, -1)))
        self.assertEqual(told_pairs((("some", "all"), ((1, 2),))), ("some", (True, None)))
        self.assertEqual(told_pairs((("all",), ((1,),))), ("all", ("meet", [-1, 1])))
        self.assertEqual(told_pairs(((), ((),))), ("all", ("empty", 0)))
        self.assertEqual(told_pairs((("all",), ((1,), ()))), ("all", ("empty", 1)))

    def test_great_claims_that_some_wins(self):
        chance = random.Random(235)
        tied = 0
        for share in (0.02, 0.1, 0.2, 0.3, 0.5, 0.8):
            for _ in range(3):
                claim, rule = kept_pairs(chance, 200, 600, share)
                told = self.check(claim)
                self.assertEqual(told[0], "some")
                tied += sum(type(part) is int for part in told[1])
        self.assertGreater(tied, 100)

    def test_great_claims_by_chance(self):
        chance = random.Random(236)
        for share in (0, 0.05, 0.5, 1):
            for count in (50, 150, 250, 600):
                kinds = tuple("all" if chance.random() < share else "some" for _ in range(200))
                names = [sorted(chance.sample(range(1, 201), 2)) for _ in range(count)]
                self.check((kinds, tuple(tuple(k * chance.choice((1, -1)) for k in pair) for pair in names)))

    def test_a_great_claim_less_one_row(self):
        # A great claim that Some wins, and each row by which All would win instead.
        chance = random.Random(237)
        claim, rule = kept_pairs(chance, 200, 599, 0.2)
        words = set()
        for _ in range(60):
            row = tuple(k * chance.choice((1, -1)) for k in sorted(chance.sample(range(1, 201), chance.choice((1, 2)))))
            place = chance.randint(0, 599)
            told = self.check((claim[0], claim[1][:place] + (row,) + claim[1][place:]))
            words.add(told[1][0] if told[0] == "all" else "some")
        self.assertGreaterEqual(len(words), 3)

    def test_long_roads(self):
        for many in (3, 4, 10, 199, 200):
            for claim, word in long_roads(many):
                told = self.check(claim)
                self.assertEqual(told[1][0] if told[0] == "all" else None, word, many)
                if many <= 4:
                    self.assertEqual(told[0], winner_of(claim))

    def test_roads_as_long_as_they_must_be(self):
        for claim, word in long_roads(200):
            told = told_pairs(claim)
            if told[0] == "all":
                self.assertGreaterEqual(max(len(road) for road in told[1][1:]), 200)

    def test_rows_with_one_literal(self):
        for k in (1, 2, 200):
            for sign in (1, -1):
                told = self.check((("some",) * 200, ((sign * k,),) * 600))
                self.assertEqual((told[0], told[1][k - 1]), ("some", sign > 0))
        self.assertEqual(self.check((("some",) * 200, tuple((k,) for k in range(1, 201))))[1], (True,) * 200)
        self.assertEqual(self.check((("some",) * 200, tuple((-k,) for k in range(1, 201))))[1], (False,) * 200)

    def test_rows_twice(self):
        for claim, word in ONE_OF_FOUR:
            self.assertEqual(self.check((claim[0], claim[1] * 7))[0], "all")
        chance = random.Random(238)
        claim, rule = kept_pairs(chance, 100, 200, 0.3)
        self.assertEqual(self.check((claim[0], claim[1] * 3))[0], "some")

    def test_no_rows_and_no_names(self):
        for many in (0, 1, 199, 200):
            for kind in SIDES:
                self.assertEqual(self.check(((kind,) * many, ()))[0], "some")
                self.assertEqual(self.check(((kind,) * many, ((),))), ("all", ("empty", 0)))
        self.assertEqual(self.check((("all",) * 200, ((1, 2),) * 599 + ((),)))[0], "all")

    def test_names_of_all_that_a_rule_must_go_by(self):
        # Each of Some's names must be picked like, or against, the name of All's right ahead of it.
        for sign in (1, -1):
            rows = []
            for k in range(1, 200, 2):
                rows += along([k, sign * (k + 1), k])
            told = self.check((("all", "some") * 100, tuple(rows)))
            self.assertEqual(told[1], tuple(None if k % 2 else sign * (k - 1) for k in range(1, 201)))


if __name__ == "__main__":
    unittest.main()
