"""[13]: played by papers."""

import itertools
import random
import unittest

from allsome.bypapers import by_rows, by_terms
from allsome.games import winner
from allsome.rowpapers import is_row_paper, row_paper
from allsome.termpapers import is_term_paper, term_paper
from tests.helper import (
    SIDES, TRUTHS, chance_claims, chance_paper, chance_steps, great_claims, is_won_by_some, moved_on, rows_over,
    some_claim, tiny_claims,
)

BY = {"all": by_rows, "some": by_terms}
PAPER = {"all": row_paper, "some": term_paper}
IS_PAPER = {"all": is_row_paper, "some": is_term_paper}


def kinds_with_both(many):
    return [kinds for kinds in itertools.product(SIDES, repeat=many) if len(set(kinds)) == 2]


class ByPapersTest(unittest.TestCase):
    def plays_out(self, side, claim, steps, play=()):
        """Plays by the paper against all picks of the other one."""
        if len(play) == len(claim[0]):
            self.assertEqual(is_won_by_some(claim, play), side == "some", (claim, steps, play))
            return
        truths = TRUTHS
        if claim[0][len(play)] == side:
            told = BY[side](claim, steps, play)
            self.assertIs(type(told), bool)
            self.assertEqual(winner(claim, play + (told,)), side, (claim, steps, play))
            truths = (told,)
        for truth in truths:
            self.plays_out(side, claim, steps, play + (truth,))

    def check(self, claim, steps):
        side = winner(claim, ())
        self.assertTrue(IS_PAPER[side](claim, steps))
        self.plays_out(side, claim, steps)

    def told(self, claim):
        return PAPER[winner(claim, ())](claim)

    def test_all_tiny_claims(self):
        for claim in tiny_claims(3):
            self.check(claim, self.told(claim))

    def test_told_papers(self):
        won = {winner(claim, ()) for claim in chance_claims(91, 300, 6, 12)}
        self.assertEqual(won, set(SIDES))
        for claim in chance_claims(91, 300, 6, 12):
            self.check(claim, self.told(claim))

    def test_great_claims(self):
        for claim in great_claims(92):
            self.check(claim, self.told(claim))

    def test_claims_that_need_many_steps(self):
        full = [row for row in rows_over(6) if len(row) == 6]
        for kinds in kinds_with_both(6)[::5]:
            self.check((kinds, tuple(full)), row_paper((kinds, tuple(full))))
            even = (kinds, tuple(row for row in full if sum(k > 0 for k in row) % 2))
            self.check(even, self.told(even))

    def test_papers_with_other_steps_ahead(self):
        chance = random.Random(93)
        for claim in chance_claims(94, 100, 5, 8):
            ahead = chance_steps(chance, claim, winner(claim, ()), 12)
            self.check(claim, ahead + moved_on(self.told(claim), len(ahead)))

    def test_papers_with_steps_behind_the_empty_row(self):
        chance = random.Random(95)
        for claim in chance_claims(96, 100, 5, 8):
            steps = self.told(claim)
            more = moved_on(chance_steps(chance, claim, winner(claim, ()), 6), len(steps))
            self.check(claim, steps + more + [("less", len(steps) - 1)])
            self.check(claim, steps + more + moved_on(steps, len(steps + more)))

    def test_papers_by_chance(self):
        chance = random.Random(97)
        found = {"all": 0, "some": 0}
        for kinds in kinds_with_both(3) + kinds_with_both(4) * 3 + kinds_with_both(5):
            claim = (kinds, some_claim(chance, len(kinds), chance.randint(2, 12), chance.choice((0.5, 0.7)))[1])
            side = winner(claim, ())
            for _ in range(3):
                steps = chance_paper(chance, claim, side)
                if steps is not None:
                    found[side] += len(steps) > 6
                    self.check(claim, steps)
        self.assertGreater(min(found.values()), 30)

    def test_row_papers_of_full_rows_by_chance(self):
        chance = random.Random(98)
        found = 0
        for kinds in kinds_with_both(3) * 2 + kinds_with_both(4) * 2:
            rows = [row for row in rows_over(len(kinds)) if len(row) >= len(kinds) - 1]
            chance.shuffle(rows)
            claim = (kinds, tuple(rows[:24]))
            for _ in range(3):
                steps = chance_paper(chance, claim, "all", 400) if winner(claim, ()) == "all" else None
                if steps is not None:
                    found += 1
                    self.check(claim, steps)
        self.assertGreater(found, 20)

    def test_seven_hundred_steps(self):
        chance = random.Random(99)
        for claim in chance_claims(100, 20, 4, 8) + great_claims(100)[:2]:
            steps = self.told(claim)
            part = chance_steps(chance, claim, winner(claim, ()), min(40, 700 - len(steps)))
            ahead = (part + part[:1] * 700)[:700 - len(steps)]
            longest = ahead + moved_on(steps, len(ahead))
            self.assertEqual(len(longest), 700)
            self.check(claim, longest)

    def test_by_hand(self):
        # All loses row 0 or row 1, whatever Some picked; the paper tells which.
        claim = (("some", "all"), ((1, 2), (-1, -2)))
        steps = [("row", 0), ("less", 0), ("row", 1), ("less", 2), ("joined", 1, 3, 1)]
        self.assertIs(by_rows(claim, steps, (False,)), False)
        self.assertIs(by_rows(claim, steps, (True,)), True)
        claim = (("all", "some"), ((1, -2), (-1, 2)))
        steps = [("term", (1, 2)), ("term", (-1, -2)), ("less", 0), ("less", 1), ("joined", 2, 3, 1)]
        self.assertIs(by_terms(claim, steps, (False,)), False)
        self.assertIs(by_terms(claim, steps, (True,)), True)
        # The first pick counts, too.
        self.assertIs(by_rows((("all",), ((1,),)), [("row", 0), ("less", 0)], ()), False)
        self.assertIs(by_rows((("all",), ((-1,),)), [("row", 0), ("less", 0)], ()), True)
        self.assertIs(by_terms((("some",), ((1,),)), [("term", (1,)), ("less", 0)], ()), True)
        self.assertIs(by_terms((("some",), ((-1,),)), [("term", (-1,)), ("less", 0)], ()), False)

    def test_two_rows_that_serve_by_turns(self):
        # When name 1 is picked yes, step 8 needs but the row of 6; when name 3 is, but that of 7. Who goes first by
        # the one and then by the other is misled at name 6, as "less" in step 10 drops nothing yet.
        rows = ((1, -5), (-1, 2, 4, -6), (3, 5), (-3, 7), (-4,), (1, -7))
        behind = [
            ("joined", 0, 1, 1), ("joined", 2, 3, 3), ("joined", 7, 6, 5), ("joined", 8, 4, 4), ("less", 9),
            ("joined", 9, 5, 7), ("less", 11), ("joined", 1, 4, 4), ("less", 13), ("joined", 12, 14, 1),
        ]
        kinds = ("some", "all", "some", "some", "some", "all", "some")
        self.check((kinds, rows), [("row", k) for k in range(6)] + behind)
        # With the sides exchanged: the claim that is kept just where all literals of one of these terms are right.
        full = [row for row in rows_over(7) if len(row) == 7]
        exchanged = tuple("some" if kind == "all" else "all" for kind in kinds)
        claim = (exchanged, tuple(row for row in full if all(set(row) & set(term) for term in rows)))
        self.check(claim, [("term", term) for term in rows] + behind)

    def test_where_each_pick_wins(self):
        for claim, steps in [((("all",), ((),)), [("row", 0)]), ((("all",), ((1,), ())), [("row", 1)])]:
            self.check(claim, steps)
        self.check((("some",), ()), [("term", ())])
        self.check((("some",), ()), [("term", (1,)), ("less", 0)])
        self.check((("some", "all", "some"), ()), [("term", (1, 3)), ("less", 0)])

    def test_two_ways_to_the_empty_row(self):
        # Each way alone asks for another pick; both must not be mixed.
        claim = (("all", "all"), ((1, 2), (-1, -2)))
        ways = [[("row", 0), ("less", 0)], [("row", 1), ("less", 0)]]
        for one, other in (ways, ways[::-1]):
            self.check(claim, one + moved_on(other, 2))
            self.check(claim, [one[0], other[0], ("less", 0), ("less", 1)])
            self.check(claim, [one[0], other[0], ("less", 1), ("less", 0)])
        claim = (("some", "some"), ())
        ways = [[("term", (1, 2)), ("less", 0)], [("term", (-1, -2)), ("less", 0)]]
        for one, other in (ways, ways[::-1]):
            self.check(claim, one + moved_on(other, 2))
        claim = (("all", "some", "all"), ((1, 2, 3), (1, -2, 3), (-1, 2, -3), (-1, -2, -3)))
        one = [("row", 0), ("row", 1), ("joined", 0, 1, 2), ("less", 2)]
        other = [("row", 2), ("row", 3), ("joined", 0, 1, 2), ("less", 2)]
        self.check(claim, one + moved_on(other, 4))
        self.check(claim, other + moved_on(one, 4))


if __name__ == "__main__":
    unittest.main()
