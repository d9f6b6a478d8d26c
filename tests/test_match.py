"""[21]: matches."""

import random
import unittest

from allsome.claims import left
from allsome.errors import ClaimError, NoBack, NoPick
from allsome.games import good_picks, winner
from allsome.match import Match
from tests.helper import THINGS, TRUTHS, chance_claims, great_claims, some_claim, tiny_claims, winners

EQUAL = (("all", "some"), ((1, -2), (-1, 2)))
NO_TRUTHS = [0, 1, -1, None, "", "y", "n", "yes", "True", (), (True,), [], [True], [False], 2, 10 ** 29]


def left_behind(claim, play):
    """The claim left behind a play."""
    many = len(play)
    right = {k if truth else -k for k, truth in enumerate(play, start=1)}
    rows = [row for row in claim[1] if not right & set(row)]
    return (claim[0][many:], tuple(
        tuple(k - many if k > 0 else k + many for k in row if abs(k) > many) for row in rows))


class MatchTest(unittest.TestCase):
    def check(self, match, claim, table, play):
        """All that a match tells, against the functions and against a going back."""
        full = len(play) == len(claim[0])
        self.assertEqual(match.play(), play)
        self.assertIs(type(match.play()), tuple)
        self.assertTrue(all(type(picked) is bool for picked in match.play()))
        turn = None if full else claim[0][len(play)]
        self.assertEqual(match.turn(), turn)
        self.assertEqual(match.who(), table[play])
        self.assertEqual(match.who(), winner(claim, play))
        good = [] if full else [truth for truth in TRUTHS if table[play + (truth,)] == turn]
        self.assertEqual(match.good(), good)
        self.assertTrue(all(type(truth) is bool for truth in match.good()))
        self.assertEqual(match.good(), good_picks(claim, play))
        self.assertEqual(match.left(), left_behind(claim, play))
        self.assertEqual(match.left(), left(claim, play))

    def refused(self, error, asked, *parts):
        with self.assertRaises(error) as caught:
            asked(*parts)
        self.assertIs(type(caught.exception), error)
        self.assertIsInstance(caught.exception, ClaimError)

    def drawn(self, chance, claim, how_many):
        """Picks and backs by draws, all that is refused among them."""
        table = winners(claim)
        match = Match(claim)
        play = ()
        self.check(match, claim, table, play)
        for _ in range(how_many):
            draw = chance.random()
            if draw < 0.15:
                self.refused(NoPick, match.pick, chance.choice(NO_TRUTHS))
            elif draw < 0.45 and not play:
                self.refused(NoBack, match.back)
            elif draw < 0.45:
                self.assertIsNone(match.back())
                play = play[:-1]
            elif len(play) == len(claim[0]):
                self.refused(NoPick, match.pick, chance.choice(TRUTHS))
            else:
                truth = chance.choice(TRUTHS)
                self.assertIsNone(match.pick(truth))
                play += (truth,)
            self.check(match, claim, table, play)

    def test_by_draws(self):
        chance = random.Random(251)
        for claim in chance_claims(252, 60):
            self.drawn(chance, claim, 40)

    def test_tiny_claims(self):
        chance = random.Random(253)
        for claim in tiny_claims(2):
            self.drawn(chance, claim, 8)

    def test_claims_of_eight_names(self):
        chance = random.Random(254)
        for claim in [some_claim(chance, 8, 20) for _ in range(3)]:
            self.drawn(chance, claim, 60)

    def test_great_claims(self):
        chance = random.Random(255)
        for claim in great_claims(256)[6:]:
            self.drawn(chance, claim, 15)

    def test_by_hand(self):
        match = Match(EQUAL)
        self.assertEqual((match.play(), match.turn(), match.who(), match.good()), ((), "all", "some", []))
        self.assertEqual(match.left(), EQUAL)
        match.pick(True)
        self.assertEqual((match.play(), match.turn(), match.who(), match.good()), ((True,), "some", "some", [True]))
        self.assertEqual(match.left(), (("some",), ((1,),)))
        match.pick(False)
        self.assertEqual((match.play(), match.turn(), match.who(), match.good()), ((True, False), None, "all", []))
        self.assertEqual(match.left(), ((), ((),)))
        match.back()
        match.pick(True)
        self.assertEqual((match.play(), match.turn(), match.who(), match.good()), ((True, True), None, "some", []))
        self.assertEqual(match.left(), ((), ()))

    def test_no_pick_of_what_is_no_truth(self):
        for claim in [EQUAL, ((), ()), ((), ((),)), (("some",) * 8, ())]:
            for thing in [thing for thing in THINGS + NO_TRUTHS if thing is not True and thing is not False]:
                match = Match(claim)
                self.refused(NoPick, match.pick, thing)
                self.assertEqual(match.play(), ())
                if claim[0]:
                    match.pick(False)
                    self.refused(NoPick, match.pick, thing)
                    self.assertEqual(match.play(), (False,))

    def test_no_pick_where_the_play_is_full(self):
        for many in range(9):
            match = Match(((("all", "some") * 4)[:many], ()))
            for number in range(many):
                match.pick(number % 2 == 0)
            for thing in [True, False] + NO_TRUTHS:
                self.refused(NoPick, match.pick, thing)
            self.assertEqual(len(match.play()), many)
            self.assertIsNone(match.turn())

    def test_no_back_where_no_pick_stands(self):
        for claim in [EQUAL, ((), ()), (("some",) * 8, ((1,),))]:
            match = Match(claim)
            self.refused(NoBack, match.back)
            for number in range(len(claim[0])):
                match.pick(True)
            for number in range(len(claim[0])):
                self.assertIsNone(match.back())
            self.refused(NoBack, match.back)
            self.assertEqual(match.play(), ())

    def test_what_is_refused_is_not_taken_back(self):
        match = Match(EQUAL)
        match.pick(True)
        self.refused(NoPick, match.pick, 1)
        match.back()
        self.assertEqual(match.play(), ())
        self.refused(NoBack, match.back)

    def test_two_side_by_side(self):
        one, other = Match(EQUAL), Match(EQUAL)
        one.pick(True)
        self.assertEqual((one.play(), other.play()), ((True,), ()))
        other.pick(False)
        other.pick(False)
        self.assertEqual((one.play(), other.play()), ((True,), (False, False)))
        one.back()
        self.assertEqual((one.play(), other.play()), ((), (False, False)))
        self.assertEqual((one.turn(), other.turn()), ("all", None))

    def test_good_picks_are_the_asker_s_own(self):
        match = Match((("some",), ()))
        good = match.good()
        self.assertEqual(good, [False, True])
        good.clear()
        self.assertEqual(match.good(), [False, True])
        match.good().append(None)
        self.assertEqual(match.good(), [False, True])
        match.pick(True)
        match.good().append(None)
        self.assertEqual(match.good(), [])

    def test_a_list_that_is_no_pick_is_not_kept(self):
        match = Match(EQUAL)
        thing = [True]
        self.refused(NoPick, match.pick, thing)
        thing.append(False)
        self.assertEqual((thing, match.play()), ([True, False], ()))

    def test_what_was_told_stays(self):
        match = Match(EQUAL)
        before = (match.play(), match.left())
        match.pick(True)
        self.assertEqual(before, ((), EQUAL))


if __name__ == "__main__":
    unittest.main()
