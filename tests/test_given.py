"""[2]: what is handed in stays as it was, what is told is the asker's own, and what numbers and truths are."""

import copy
import unittest

from allsome.away import put_away
from allsome.bypapers import by_rows, by_terms
from allsome.claims import is_claim, is_kept, is_lost, is_play, left
from allsome.counted import how_many_kept, how_many_plans
from allsome.errors import NoStep
from allsome.fewest import ends, least_plan
from allsome.games import good_picks, parted, winner
from allsome.plans import is_plan, plan
from allsome.rowpapers import is_row_paper, row_paper, rows_of
from allsome.spread import keeps, spread
from allsome.termpapers import is_term_paper, term_paper, terms_of
from tests.helper import THINGS, chance_claims, first_steps, plays

CLAIM = (("some", "all", "some"), ((1, 2, -3), (-2, 3), (1, 3)))
PAPERS = {"all": (row_paper, rows_of, is_row_paper), "some": (term_paper, terms_of, is_term_paper)}
BY = {"all": by_rows, "some": by_terms}


def paper_answers(claim):
    """What is told of a claim's papers."""
    told_paper, made_of, is_paper = PAPERS[winner(claim, ())]
    steps = told_paper(claim)
    return [steps, made_of(claim, steps), is_paper(claim, steps), is_paper(claim, steps[:-1])]


def all_answers(claim, other):
    """What is told of a claim and of each of its plays."""
    told = [is_claim(claim), plan(claim), parted(claim, other), parted(other, claim)]
    for play in plays(len(claim[0])):
        told += [is_play(claim, play), left(claim, play), winner(claim, play), good_picks(claim, play)]
        told += [is_kept(row, play) for row in claim[1]] + [is_lost(row, play) for row in claim[1]]
    for side in ("all", "some"):
        told += [is_plan(claim, side, plan(claim)[1])]
    told += [least_plan(claim), ends(plan(claim)[1])] + paper_answers(claim)
    told += [put_away(claim, many, 2000) for many in range(len(claim[0]) + 1)]
    told += [spread(claim), keeps(claim, (True,) * len(spread(claim)[0])), how_many_kept(claim)]
    return told + [how_many_plans(claim, side) for side in ("all", "some")] + picks_by_paper(claim)


def picks_by_paper(claim):
    """The truths that the winner picks by the told paper, when the other one always picks yes."""
    side = winner(claim, ())
    steps = PAPERS[side][0](claim)
    play = ()
    for kind in claim[0]:
        play += (BY[side](claim, steps, play) if kind == side else True,)
    return [play]


class HandedInTest(unittest.TestCase):
    def test_any_thing_stays_as_it_was(self):
        for thing in THINGS:
            before = copy.deepcopy(thing)
            is_claim(thing)
            is_play(CLAIM, thing)
            is_plan(CLAIM, "some", thing)
            is_plan(CLAIM, "all", thing)
            is_row_paper(CLAIM, thing)
            is_term_paper(CLAIM, thing)
            keeps(CLAIM, thing)
            self.assertEqual(thing, before)

    def test_lists_within_stay_as_they_were(self):
        claim = (["some"], [[1], [-1]])
        play = [True]
        tree = ("pick", True, ["each", ("kept",), [("kept",)]])
        before = copy.deepcopy((claim, play, tree))
        is_claim(claim)
        is_play(CLAIM, play)
        is_plan(CLAIM, "some", tree)
        self.assertEqual((claim, play, tree), before)

    def test_a_thing_changed_later_is_told_of_anew(self):
        part = []
        thing = ("pick", True, part)
        self.assertIs(is_plan((("some",), ()), "some", thing), False)
        part.append("kept")
        self.assertIs(is_plan((("some",), ()), "some", thing), False)
        self.assertEqual(part, ["kept"])

    def test_steps_stay_as_they_were(self):
        for claim in chance_claims(33, 60):
            for side, (told_paper, made_of, is_paper) in PAPERS.items():
                steps = first_steps(claim, side)[:20]
                if winner(claim, ()) == side:
                    steps = told_paper(claim)
                before = copy.deepcopy(steps)
                made_of(claim, steps)
                is_paper(claim, steps)
                if winner(claim, ()) == side and claim[0][:1] == (side,):
                    BY[side](claim, steps, ())
                self.assertEqual(steps, before)
                spoilt = steps + [["less", [0]]] + steps
                before = copy.deepcopy(spoilt)
                self.assertRaises(NoStep, made_of, claim, spoilt)
                is_paper(claim, spoilt)
                self.assertEqual(spoilt, before)

    def test_steps_changed_later_change_nothing_told(self):
        claim = (("some",), ((1,), (-1,)))
        steps = row_paper(claim)
        rows = rows_of(claim, steps)
        kept = list(rows)
        steps.clear()
        self.assertEqual(rows, kept)
        self.assertIs(is_row_paper(claim, steps), False)
        self.assertEqual(rows_of(claim, steps), [])

    def test_claims_and_plays_stay_as_they_were(self):
        for kinds, rows in chance_claims(31, 40):
            one, other = (kinds, rows), (kinds, rows[1:])
            before = copy.deepcopy((one, other))
            all_answers(one, other)
            self.assertEqual((one, other), before)


class ToldTest(unittest.TestCase):
    def test_a_told_list_is_the_asker_s_own(self):
        for claim in [CLAIM, (("some",), ()), (("some",), ((1,),)), (("all",), ()), ((), ())]:
            for play in plays(len(claim[0])):
                first = good_picks(claim, play)
                kept = list(first)
                first.append("x")
                first.reverse()
                self.assertEqual(good_picks(claim, play), kept)
                self.assertIsNot(good_picks(claim, play), good_picks(claim, play))
                first = good_picks(claim, play)
                first.clear()
                self.assertEqual(good_picks(claim, play), kept)

    def test_a_told_list_of_steps_or_rows_is_the_asker_s_own(self):
        for claim in chance_claims(34, 60) + [((), ()), ((), ((),))]:
            told_paper, made_of, is_paper = PAPERS[winner(claim, ())]
            kept = (told_paper(claim), made_of(claim, told_paper(claim)))
            steps = told_paper(claim)
            rows = made_of(claim, steps)
            self.assertIsNot(rows, steps)
            for told in (steps, rows):
                told.append("x")
                told.reverse()
                told[0] = None
            self.assertEqual((told_paper(claim), made_of(claim, kept[0])), kept)
            self.assertIs(is_paper(claim, kept[0]), True)
            steps.clear()
            rows.clear()
            self.assertEqual((told_paper(claim), made_of(claim, kept[0])), kept)

    def test_the_rows_of_no_steps_are_a_new_list(self):
        for made_of in (rows_of, terms_of):
            steps = []
            rows = made_of(CLAIM, steps)
            rows.append("x")
            self.assertEqual(steps, [])
            self.assertEqual(made_of(CLAIM, []), [])

    def test_nothing_hangs_on_what_was_asked_ahead(self):
        claims = chance_claims(32, 30)
        pairs = [((kinds, rows), (kinds, rows[1:])) for kinds, rows in claims]
        ahead = [all_answers(one, other) for one, other in pairs]
        back = [all_answers(one, other) for one, other in reversed(pairs)]
        self.assertEqual(ahead, back[::-1])


class NumbersAndTruthsTest(unittest.TestCase):
    def test_truths_are_no_whole_numbers(self):
        self.assertIs(is_claim((("some",), ((1,),))), True)
        self.assertIs(is_claim((("some",), ((True,),))), False)
        self.assertIs(is_claim((("some",), ((False,),))), False)
        for number, answer in ((0, True), (1, True), (False, False), (True, False)):
            self.assertIs(is_plan(((), ((), ())), "all", ("lost", number)), answer)

    def test_numbers_are_no_truths(self):
        for truth, answer in ((False, True), (True, True), (0, False), (1, False)):
            self.assertIs(is_play((("some",), ()), (truth,)), answer)
            self.assertIs(is_plan((("some",), ()), "some", ("pick", truth, ("kept",))), answer)


if __name__ == "__main__":
    unittest.main()
