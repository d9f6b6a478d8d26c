"""[7], [8]: who wins, the good picks, and where two claims part."""

import random
import unittest

from allsome.claims import left
from allsome.games import good_picks, parted, winner
from tests.helper import TRUTHS, chance_claims, great_claims, plays, tiny_claims, winners


class WinnerTest(unittest.TestCase):
    def check_each_play(self, claim, step=1):
        table = winners(claim)
        for play in list(table)[::step]:
            self.assertEqual(winner(claim, play), table[play], (claim, play))
            wanted = []
            if len(play) < len(claim[0]):
                wanted = [t for t in TRUTHS if table[play + (t,)] == claim[0][len(play)]]
            told = good_picks(claim, play)
            self.assertIs(type(told), list)
            self.assertEqual(told, wanted, (claim, play))
            self.assertTrue(all(type(truth) is bool for truth in told))

    def test_each_play_of_all_tiny_claims(self):
        for claim in tiny_claims(3):
            self.check_each_play(claim)

    def test_each_play_of_claims_by_chance(self):
        for claim in chance_claims(1, 300):
            self.check_each_play(claim)

    def test_claims_of_eight_names(self):
        for claim in great_claims(2):
            self.check_each_play(claim, 5)

    def test_no_names(self):
        self.assertEqual(winner(((), ()), ()), "some")
        self.assertEqual(winner(((), ((),)), ()), "all")
        self.assertEqual(good_picks(((), ()), ()), [])
        self.assertEqual(good_picks(((), ((),)), ()), [])

    def test_no_rows(self):
        for kinds in [("all",), ("some",), ("all", "some", "all"), ("some",) * 8]:
            for play in plays(len(kinds))[:20]:
                self.assertEqual(winner((kinds, ()), play), "some")
        self.assertEqual(good_picks((("some",), ()), ()), [False, True])
        self.assertEqual(good_picks((("all",), ()), ()), [])

    def test_the_empty_row(self):
        for kinds in [("all",), ("some",), ("some", "all"), ("some",) * 8]:
            for play in plays(len(kinds))[:20]:
                self.assertEqual(winner((kinds, ((1,), ())), play), "all")
        self.assertEqual(good_picks((("some",), ((),)), ()), [])
        self.assertEqual(good_picks((("all",), ((),)), ()), [False, True])

    def test_the_order_of_the_names_tells(self):
        equal = ((1, -2), (-1, 2))
        self.assertEqual(winner((("all", "some"), equal), ()), "some")
        self.assertEqual(winner((("some", "all"), equal), ()), "all")
        self.assertEqual(winner((("some", "some"), equal), ()), "some")
        self.assertEqual(winner((("all", "all"), equal), ()), "all")
        self.assertEqual(winner((("some", "all"), equal), (True, True)), "some")

    def test_good_picks(self):
        claim = (("all", "some"), ((1, -2), (-1, 2)))
        self.assertEqual(good_picks(claim, ()), [])
        self.assertEqual(good_picks(claim, (True,)), [True])
        self.assertEqual(good_picks(claim, (False,)), [False])
        self.assertEqual(good_picks((("all", "some"), ((1,),)), ()), [False])
        self.assertEqual(good_picks((("all", "all"), ((1, 2), (-1, 2))), ()), [False, True])

    def test_a_full_play_has_no_good_picks(self):
        for claim in tiny_claims(2):
            for play in plays(len(claim[0])):
                if len(play) == len(claim[0]):
                    self.assertEqual(good_picks(claim, play), [])

    def test_the_claim_left_has_the_play_s_winner(self):
        for claim in chance_claims(3, 60):
            for play in plays(len(claim[0])):
                self.assertEqual(winner(left(claim, play), ()), winner(claim, play))


class PartedTest(unittest.TestCase):
    def check(self, one, other):
        mine, its = winners(one), winners(other)
        wanted = None
        for play in plays(len(one[0])):
            if mine[play] != its[play]:
                wanted = play
                break
        for told in (parted(one, other), parted(other, one)):
            self.assertEqual(told, wanted, (one, other))
            if told is not None:
                self.assertIs(type(told), tuple)
                self.assertTrue(all(type(truth) is bool for truth in told))
        return wanted

    def test_pairs_of_tiny_claims(self):
        claims = tiny_claims(2)
        for step in (1, 2, 5, 11, 17, 29):
            for one, other in zip(claims, claims[step:]):
                if one[0] == other[0]:
                    self.check(one, other)

    def test_pairs_by_chance(self):
        chance = random.Random(8)
        lengths = {}
        for kinds, rows in chance_claims(9, 300):
            rest = [row for row in rows if chance.random() < 0.8]
            chance.shuffle(rest)
            found = self.check((kinds, rows), (kinds, tuple(rest)))
            lengths[None if found is None else len(found)] = True
        self.assertTrue({None, 0, 1, 2, 3} <= set(lengths), "the claims must part at many lengths")

    def test_great_claims(self):
        for kinds, rows in great_claims(10):
            self.assertIsNone(self.check((kinds, rows), (kinds, rows[::-1])))
            self.check((kinds, rows), (kinds, rows[1:]))

    def test_the_same_winners_everywhere(self):
        self.assertIsNone(parted(((), ()), ((), ())))
        self.assertIsNone(parted(((), ((),)), ((), ((), ()))))
        one = (("all", "some"), ((1, 2), (-1, 2)))
        self.assertIsNone(parted(one, one))
        self.assertIsNone(parted(one, (("all", "some"), ((-1, 2), (1, 2), (1, 2), (2,)))))

    def test_rows_in_another_number_and_order(self):
        for kinds, rows in chance_claims(12, 60):
            self.assertIsNone(parted((kinds, rows), (kinds, rows[::-1] + rows)))

    def test_fewest_picks_then_the_least(self):
        kinds = ("all", "some")
        self.assertEqual(parted((kinds, ()), (kinds, ((),))), ())
        self.assertEqual(parted((("some",), ((1,),)), (("some",), ((-1,),))), (False,))
        self.assertEqual(parted((("some",), ((1,),)), (("some",), ())), (False,))
        self.assertEqual(parted((("some",), ((-1,),)), (("some",), ())), (True,))
        self.assertEqual(parted((kinds, ((1,), (2,))), (kinds, ((1,), (-2,)))), (True, False))
        self.assertEqual(parted((kinds, ((-1, 2),)), (kinds, ((-1, -2),))), (True, False))
        self.assertEqual(parted((kinds, ((1, 2),)), (kinds, ())), (False, False))
        # Here also (False, False) parts, but (True,) has fewer picks.
        three = ("some", "some", "some")
        self.assertEqual(parted((three, ((1, 2),)), (three, ((-1,), (1, 2)))), (True,))
        self.assertEqual(parted((three, ((1, 2, 3),)), (three, ((-1,), (1, 2, -3)))), (True,))


if __name__ == "__main__":
    unittest.main()
