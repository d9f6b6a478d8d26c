"""[1], [3]: what is promised over the whole program, its parts side by side."""

import itertools
import random
import unittest

from allsome.away import put_away
from allsome.bypapers import by_rows, by_terms
from allsome.claims import is_claim, left
from allsome.cores import is_needless, lean
from allsome.counted import how_many_kept, how_many_plans
from allsome.desk import Desk
from allsome.errors import NotWon, TooMany
from allsome.fewest import least_plan
from allsome.games import good_picks, winner
from allsome.keeper import Keeper
from allsome.looker import is_told
from allsome.match import Match
from allsome.moved import earliest, moved
from allsome.pairs import is_pairs, told_pairs
from allsome.plans import is_plan, plan
from allsome.rowpapers import is_row_paper, row_paper
from allsome.spread import keeps, spread
from allsome.termpapers import is_term_paper, term_paper
from allsome.texts import read_claim, read_tree, show_claim, show_tree
from tests.helper import (
    SIDES, TRUTHS, chance_claims, chance_pairs, great_claims, is_won_by_some, plays, some_claim, tiny_claims, winner_of,
    winners,
)


def other_of(side):
    """The other one."""
    return "some" if side == "all" else "all"


def hundreds(seed):
    """Claims of six names with hundreds of rows, some of them won by Some."""
    chance = random.Random(seed)
    found = []
    for count in (100, 300, 600, 1000):
        kinds, rows = some_claim(chance, 6, count, 0.8)
        found.append((kinds, rows))
        found.append((("some",) * 6, tuple(row for row in rows if any(k > 0 for k in row))))
        found.append((("all",) * 3 + ("some",) * 3, tuple(row for row in rows if any(k > 3 for k in row))))
    return found


def claims_to_ask(seed):
    """Claims of all sizes."""
    chance = random.Random(seed)
    eight = [some_claim(chance, 8, count) for count in (3, 10, 20)]
    return chance_claims(seed, 120, 5, 10) + eight + great_claims(seed) + hundreds(seed)


def wins_at_last(claim, side, picks):
    """Whether the side, picking by picks(play), wins whatever the other one picks."""
    reached = [()]
    for kind in claim[0]:
        further = []
        for play in reached:
            further += [play + (truth,) for truth in ([picks(play)] if kind == side else TRUTHS)]
        reached = further
    return all(is_won_by_some(claim, play) == (side == "some") for play in reached)


class OneWinnerTest(unittest.TestCase):
    def check(self, claim):
        side = winner_of(claim)
        match = Match(claim)
        told = [winner(claim, ()), plan(claim)[0], least_plan(claim)[0], match.who()]
        if len(claim[1]) <= 20:
            self.assertIs(is_claim(claim), True)
            keeper, desk = Keeper(claim[0]), Desk()
            desk.say("kinds " + (" ".join(claim[0]) or "-"))
            for row in claim[1]:
                keeper.put(row)
                desk.say("row " + (" ".join(map(str, row)) or "0"))
            self.assertEqual(keeper.claim(), claim)
            told += [keeper.winner(), keeper.plan()[0], keeper.paper()[0]]
            told += [desk.say("winner")] + [desk.say(word).split(" ")[0] for word in ("plan", "paper")]
            told += [winner(read_claim(desk.say("show")), ())]
        self.assertEqual(set(told), {side}, claim)
        self.sides[side] += 1

    def setUp(self):
        self.sides = {"all": 0, "some": 0}

    def test_tiny_claims(self):
        for claim in tiny_claims(3):
            self.check(claim)

    def test_claims_of_all_sizes(self):
        for claim in claims_to_ask(291):
            self.check(claim)
        self.assertGreater(min(self.sides.values()), 30)

    def test_from_each_beginning(self):
        for claim in chance_claims(292, 60):
            table = winners(claim)
            for play in plays(len(claim[0])):
                rest = left(claim, play)
                match = Match(claim)
                for truth in play:
                    match.pick(truth)
                told = {winner(claim, play), winner(rest, ()), plan(rest)[0], least_plan(rest)[0], match.who()}
                self.assertEqual(told, {table[play]}, (claim, play))
                self.assertEqual(match.left(), rest)

    def test_pairs(self):
        chance = random.Random(293)
        for _ in range(300):
            claim = chance_pairs(chance, 8, 14, 0.3)
            self.assertIs(is_pairs(claim), True)
            told = told_pairs(claim)
            self.assertIs(is_told(claim, told), True)
            self.assertEqual(told[0], winner(claim, ()))
            self.check(claim)


class PlansAndPapersTest(unittest.TestCase):
    def check(self, claim):
        side = winner_of(claim)
        other = other_of(side)
        for tree in (plan(claim)[1], least_plan(claim)[2]):
            self.assertIs(is_plan(claim, side, tree), True, claim)
            self.assertIs(is_plan(claim, other, tree), False, claim)
        papers = {"all": (row_paper, is_row_paper), "some": (term_paper, is_term_paper)}
        steps = papers[side][0](claim)
        self.assertIs(papers[side][1](claim, steps), True, claim)
        self.assertRaises(NotWon, papers[other][0], claim)
        self.assertIs(papers[other][1](claim, steps), False, claim)
        self.assertLessEqual(len(steps), 600)
        self.assertGreater(how_many_plans(claim, side), 0, claim)
        self.assertEqual(how_many_plans(claim, other), 0, claim)

    def test_tiny_claims(self):
        for claim in tiny_claims(3):
            self.check(claim)

    def test_claims_of_all_sizes(self):
        for claim in claims_to_ask(294):
            self.check(claim)

    def test_trees_written_and_read(self):
        for claim in chance_claims(295, 150, 8, 20):
            for tree in (plan(claim)[1], least_plan(claim)[2]):
                self.assertIs(is_plan(claim, winner(claim, ()), read_tree(show_tree(tree))), True)
            self.assertEqual(plan(read_claim(show_claim(claim))), plan(claim))


class PutAwayTest(unittest.TestCase):
    def test_all_names_put_away(self):
        refused = 0
        for claim in tiny_claims(3) + claims_to_ask(296):
            if len(claim[0]) > 0:
                try:
                    told = put_away(claim, len(claim[0]), 2000)
                except TooMany:
                    refused += 1
                    continue
                self.assertEqual(told, ((), () if winner_of(claim) == "some" else ((),)), claim)
        self.assertLess(refused, 6)

    def test_the_winner_stays(self):
        for claim in chance_claims(297, 100):
            for many in range(len(claim[0]) + 1):
                told = put_away(claim, many, 2000)
                self.assertEqual({winner(told, ()), plan(told)[0]}, {winner(claim, ())})


class WinsAtLastTest(unittest.TestCase):
    def check(self, claim):
        side = winner(claim, ())
        steps = row_paper(claim) if side == "all" else term_paper(claim)
        by = by_rows if side == "all" else by_terms
        self.assertTrue(wins_at_last(claim, side, lambda play: by(claim, steps, play)), claim)
        for which in (0, -1):
            self.assertTrue(wins_at_last(claim, side, lambda play: good_picks(claim, play)[which]), claim)

    def test_tiny_claims(self):
        for claim in tiny_claims(2):
            self.check(claim)

    def test_claims_by_chance(self):
        for claim in chance_claims(298, 100, 6, 12):
            self.check(claim)

    def test_claims_of_hundreds_of_rows(self):
        for claim in hundreds(299):
            self.check(claim)

    def test_a_match_played_by_what_is_good(self):
        chance = random.Random(300)
        for claim in chance_claims(301, 200, 8, 20) + great_claims(302)[::3]:
            match = Match(claim)
            side = match.who()
            while match.turn() is not None:
                if match.turn() == side:
                    self.assertNotEqual(match.good(), [])
                    match.pick(chance.choice(match.good()))
                else:
                    self.assertEqual(match.good(), [])
                    match.pick(chance.choice(TRUTHS))
                self.assertEqual(match.who(), side)
            self.assertEqual(is_won_by_some(claim, match.play()), side == "some")
            self.assertEqual(match.left(), ((), ()) if side == "some" else ((), ((),) * len(match.left()[1])))

    def test_a_match_played_by_a_paper(self):
        chance = random.Random(303)
        for claim in chance_claims(304, 150, 6, 12):
            match = Match(claim)
            side = match.who()
            steps = row_paper(claim) if side == "all" else term_paper(claim)
            while match.turn() is not None:
                by = by_rows if side == "all" else by_terms
                mine = match.turn() == side
                match.pick(by(claim, steps, match.play()) if mine else chance.choice(TRUTHS))
            self.assertEqual(match.who(), side)


class ChangedClaimsTest(unittest.TestCase):
    def test_a_claim_spread(self):
        for claim in chance_claims(305, 200, 4, 6):
            parts, rows = spread(claim)
            if len(parts) <= 7:
                every = itertools.product(TRUTHS, repeat=len(parts))
                count = sum(keeps(claim, full) for full in every)
                self.assertEqual(count, how_many_plans(claim, "some"))
                self.assertEqual(count > 0, winner(claim, ()) == "some")

    def test_a_name_moved(self):
        for claim in chance_claims(306, 150, 6, 8):
            side = winner(claim, ())
            for k, kind in enumerate(claim[0], start=1):
                if kind == side:
                    told = moved(claim, k, earliest(claim, k))
                    self.assertEqual({winner(told, ()), plan(told)[0]}, {side})
                self.assertEqual(how_many_kept(moved(claim, k, 1)), how_many_kept(claim))

    def test_a_row_left_out(self):
        for claim in chance_claims(307, 150, 5, 10):
            for k in range(len(claim[1])):
                rest = (claim[0], claim[1][:k] + claim[1][k + 1:])
                self.assertEqual(is_needless(claim, k), winner(rest, ()) == winner(claim, ()))
            if winner(claim, ()) == "all":
                rows = tuple(claim[1][number] for number in lean(claim))
                self.assertEqual(plan((claim[0], rows))[0], "all")
                self.assertIs(is_row_paper((claim[0], rows), row_paper((claim[0], rows))), True)

    def test_both_sides(self):
        # So that what stands above is asked of claims that each side wins.
        won = {side: 0 for side in SIDES}
        for claim in chance_claims(307, 150, 5, 10):
            won[winner_of(claim)] += 1
        self.assertGreater(min(won.values()), 20)


if __name__ == "__main__":
    unittest.main()
