"""[3], [15]: claims spread over all that All may choose."""

import itertools
import random
import unittest

from allsome.games import winner
from allsome.spread import keeps, spread
from tests.helper import (
    SIDES, THINGS, TRUTHS, chance_claims, full_plan_wins, great_claims, parts, some_claim, tiny_claims, winners,
)


def spread_rows(claim):
    """The rows of a claim spread, by all choices of All."""
    kinds = claim[0]
    of_all = [k for k, kind in enumerate(kinds, start=1) if kind == "all"]
    numbers = {part: number for number, part in enumerate(parts(kinds, "some"), start=1)}
    found = set()
    for truths in itertools.product(TRUTHS, repeat=len(of_all)):
        chosen = dict(zip(of_all, truths))
        right = {k if truth else -k for k, truth in chosen.items()}
        for row in claim[1]:
            if not right & set(row):
                literals = []
                for literal in [k for k in row if abs(k) not in chosen]:
                    choice = tuple(chosen[k] for k in of_all if k < abs(literal))
                    number = numbers[(abs(literal), choice)]
                    literals.append((number, number if literal > 0 else -number))
                found.add(tuple(literal for number, literal in sorted(literals)))
    return tuple(sorted(found))


class SpreadTest(unittest.TestCase):
    def check(self, claim):
        told = spread(claim)
        self.assertIs(type(told), tuple)
        self.assertEqual([type(part) for part in told], [tuple, tuple])
        self.assertEqual(told[0], tuple(parts(claim[0], "some")), claim)
        self.assertEqual(told[1], spread_rows(claim), claim)
        for k, choice in told[0]:
            self.assertEqual((type(k), type(choice)), (int, tuple))
            self.assertEqual({type(truth) for truth in choice} - {bool}, set())

    def test_all_tiny_claims(self):
        for claim in tiny_claims(3):
            self.check(claim)

    def test_claims_by_chance(self):
        for claim in chance_claims(111, 300, 6, 10):
            self.check(claim)

    def test_great_claims(self):
        for claim in great_claims(112):
            self.check(claim)

    def test_by_hand(self):
        claim = (("all", "some"), ((1, -2), (-1, 2)))
        self.assertEqual(spread(claim), (((2, (False,)), (2, (True,))), ((-1,), (2,))))
        claim = (("some", "all", "some"), ((1, 2, 3), (-3,), (-1, -2)))
        parts_told = ((1, ()), (3, (False,)), (3, (True,)))
        self.assertEqual(spread(claim), (parts_told, ((-3,), (-2,), (-1,), (1, 2))))

    def test_the_parts_of_names_further_behind(self):
        told = spread((("all", "some", "all", "some"), ()))
        choices = [(False, False), (False, True), (True, False), (True, True)]
        want = ((2, (False,)), (2, (True,))) + tuple((4, choice) for choice in choices)
        self.assertEqual(told, (want, ()))

    def test_without_names_of_one_side(self):
        rows = ((2,), (1, -2), (2,), (-1, 2))
        self.assertEqual(spread((("some", "some"), rows)), (((1, ()), (2, ())), ((-1, 2), (1, -2), (2,))))
        self.assertEqual(spread((("all", "all"), rows)), ((), ((),)))
        self.assertEqual(spread((("all", "all"), ())), ((), ()))
        self.assertEqual(spread((("all",) * 8, ())), ((), ()))
        for kinds in itertools.product(SIDES, repeat=3):
            self.check((kinds, ()))
            self.check((kinds, ((),)))
            self.check((kinds, ((), (1, 2, 3), ())))

    def test_without_names(self):
        self.assertEqual(spread(((), ())), ((), ()))
        self.assertEqual(spread(((), ((),))), ((), ((),)))
        self.assertEqual(spread(((), ((), ()))), ((), ((),)))

    def test_many_parts(self):
        told = spread((("all",) * 7 + ("some",), ((8,),)))
        self.assertEqual(len(told[0]), 128)
        self.assertEqual(told[1], tuple((number,) for number in range(1, 129)))
        self.check((("all",) * 7 + ("some",), ((-8,), (1, 8))))


class KeepsTest(unittest.TestCase):
    def check(self, claim, thing, answer):
        self.assertIs(keeps(claim, thing), answer, (claim, repr(thing)[:200]))

    def check_all_full_plans(self, claim):
        kept = 0
        for plan in itertools.product(TRUTHS, repeat=len(parts(claim[0], "some"))):
            answer = full_plan_wins(claim, "some", plan)
            self.check(claim, plan, answer)
            kept += answer
        self.assertEqual(kept > 0, winner(claim, ()) == "some", claim)

    def test_all_full_plans_of_small_claims(self):
        claims = tiny_claims(3) + chance_claims(113, 200, 4, 6)
        for claim in claims:
            if len(parts(claim[0], "some")) <= 6:
                self.check_all_full_plans(claim)

    def test_some_full_plans_of_great_claims(self):
        chance = random.Random(114)
        for claim in great_claims(115) + [some_claim(chance, 8, 8, 0.4) for _ in range(10)]:
            table = winners(claim)
            plan = self.full_plan(claim, table)
            self.check(claim, plan, table[()] == "some")
            for _ in range(2):
                number = chance.randrange(len(plan)) if plan else 0
                other = plan[:number] + tuple(not truth for truth in plan[number:number + 1]) + plan[number + 1:]
                self.check(claim, other, full_plan_wins(claim, "some", other))

    def full_plan(self, claim, table):
        """Some's full plan by the table of winners: a truth that wins, where there is one."""
        picks = {}
        for choice in itertools.product(TRUTHS, repeat=claim[0].count("all")):
            play, seen = (), 0
            for k, kind in enumerate(claim[0], start=1):
                if kind == "all":
                    play += (choice[seen],)
                    seen += 1
                else:
                    picks[(k, choice[:seen])] = table[play + (True,)] == "some"
                    play += (picks[(k, choice[:seen])],)
        return tuple(picks[part] for part in parts(claim[0], "some"))

    def test_too_short_or_too_long(self):
        claim = (("all", "some"), ((1, -2), (-1, 2)))
        self.check(claim, (False, True), True)
        self.check(claim, (True, True), False)
        for thing in [(), (False,), (True,), (False, True, True), (False, True, False), (False, True) * 2]:
            self.check(claim, thing, False)
        self.check((("some",), ()), (), False)
        self.check((("some",), ()), (True, True), False)
        self.check((("all",), ()), (True,), False)

    def test_what_is_no_truth(self):
        claim = (("some", "some"), ((1,),))
        self.check(claim, (True, False), True)
        for thing in [(1, False), (True, 0), (1, 0), (True, None), (True, "False"), (True, ()), (True, []), ("y", "n")]:
            self.check(claim, thing, False)
        self.check((("some",), ()), (1,), False)
        self.check((("some",), ()), (0,), False)

    def test_lists(self):
        self.check((("some",), ()), [True], False)
        self.check((("some",), ()), ([True],), False)
        self.check((("some",), ()), ((True,),), False)
        self.check(((), ()), [], False)

    def test_no_parts(self):
        self.check(((), ()), (), True)
        self.check(((), ((),)), (), False)
        self.check((("all",), ()), (), True)
        self.check((("all",), ((1,),)), (), False)
        self.check((("all", "all"), ((1, -2),)), (), False)

    def test_other_things(self):
        claims = [((), ((),)), (("some",), ()), (("some", "some"), ()), (("all", "some"), ((1, -2), (-1, 2)))]
        for thing in THINGS:
            for claim in claims:
                self.check(claim, thing, False)
            if type(thing) is not tuple or len(thing) > 0:
                self.check(((), ()), thing, False)
                self.check((("all",) * 8, ()), thing, False)


if __name__ == "__main__":
    unittest.main()
