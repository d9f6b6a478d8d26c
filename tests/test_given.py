"""[2]: what is handed in stays as it was, what is told is the asker's own, and what numbers and truths are."""

import copy
import random
import unittest

from allsome.away import put_away
from allsome.bypapers import by_rows, by_terms
from allsome.claims import is_claim, is_kept, is_lost, is_play, left
from allsome.cores import fewest_rows, is_fewest, is_needless, lean
from allsome.counted import how_many_kept, how_many_plans
from allsome.desk import Desk
from allsome.errors import ClaimError, NoPick, NoRow, NoStep
from allsome.fewest import ends, least_plan
from allsome.games import good_picks, parted, winner
from allsome.keeper import Keeper
from allsome.looker import is_told
from allsome.match import Match
from allsome.moved import earliest, moved
from allsome.pairs import is_pairs, told_pairs
from allsome.plans import is_plan, plan
from allsome.rowpapers import is_row_paper, row_paper, rows_of
from allsome.spread import keeps, spread
from allsome.termpapers import is_term_paper, term_paper, terms_of
from allsome.texts import read_claim, read_tree, show_claim, show_tree
from tests.helper import THINGS, chance_claims, chance_pairs, first_steps, long_roads, plays

CLAIM = (("some", "all", "some"), ((1, 2, -3), (-2, 3), (1, 3)))
LOST = (("some",), ((1,), (-1,)))
PAPERS = {"all": (row_paper, rows_of, is_row_paper), "some": (term_paper, terms_of, is_term_paper)}
BY = {"all": by_rows, "some": by_terms}


def paper_answers(claim):
    """What is told of a claim's papers."""
    told_paper, made_of, is_paper = PAPERS[winner(claim, ())]
    steps = told_paper(claim)
    return [steps, made_of(claim, steps), is_paper(claim, steps), is_paper(claim, steps[:-1])]


def all_answers(claim, other):
    """What is told of a claim and of each of its plays."""
    told = [is_claim(claim), plan(claim), parted(claim, other), parted(other, claim)]
    for play in plays(len(claim[0])):
        told += [is_play(claim, play), left(claim, play), winner(claim, play), good_picks(claim, play)]
        told += [is_kept(row, play) for row in claim[1]] + [is_lost(row, play) for row in claim[1]]
    for side in ("all", "some"):
        told += [is_plan(claim, side, plan(claim)[1])]
    told += [least_plan(claim), ends(plan(claim)[1])] + paper_answers(claim)
    told += [put_away(claim, many, 2000) for many in range(len(claim[0]) + 1)]
    told += [spread(claim), keeps(claim, (True,) * len(spread(claim)[0])), how_many_kept(claim)]
    told += [how_many_plans(claim, side) for side in ("all", "some")] + picks_by_paper(claim)
    return told + moved_answers(claim) + rows_answers(claim) + text_answers(claim)


def text_answers(claim):
    """What is told of a claim's texts."""
    told = [show_claim(claim), show_tree(plan(claim)[1])]
    return told + [read_claim(told[0]), read_tree(told[1]), read_tree(told[0])]


def moved_answers(claim):
    """What is told of a claim's names moved."""
    names = range(1, len(claim[0]) + 1)
    told = [moved(claim, k, q) for k in names for q in range(1, k + 1)]
    return told + [earliest(claim, k) for k in names if claim[0][k - 1] == winner(claim, ())]


def rows_answers(claim):
    """What is told of the rows that matter."""
    told = [is_needless(claim, k) for k in range(len(claim[1]))]
    if winner(claim, ()) == "all":
        told += [lean(claim)]
        if len(claim[1]) <= 6:
            told += [fewest_rows(claim), is_fewest(claim, fewest_rows(claim)), is_fewest(claim, ((), []))]
    return told


def some_pairs(seed):
    """Pairs claims, small ones by chance and some with long roads."""
    chance = random.Random(seed)
    return [chance_pairs(chance, 6, 10) for _ in range(60)] + [claim for claim, word in long_roads(200)]


def picks_by_paper(claim):
    """The truths that the winner picks by the told paper, when the other one always picks yes."""
    side = winner(claim, ())
    steps = PAPERS[side][0](claim)
    play = ()
    for kind in claim[0]:
        play += (BY[side](claim, steps, play) if kind == side else True,)
    return [play]


class HandedInTest(unittest.TestCase):
    def test_any_thing_stays_as_it_was(self):
        for thing in THINGS:
            before = copy.deepcopy(thing)
            is_claim(thing)
            is_play(CLAIM, thing)
            is_plan(CLAIM, "some", thing)
            is_plan(CLAIM, "all", thing)
            is_row_paper(CLAIM, thing)
            is_term_paper(CLAIM, thing)
            keeps(CLAIM, thing)
            is_fewest(LOST, thing)
            is_fewest(LOST, ((0, 1), thing))
            is_pairs(thing)
            is_told(LOST, thing)
            is_told(LOST, ("all", ("turn", thing, thing)))
            self.assertEqual(thing, before)

    def test_bars_and_roads_stay_as_they_were(self):
        for bars in [[(0,), (1,)], [(1,), (0,), (0,)], [[0], (1,)], [(0,), [[], None]], []]:
            before = copy.deepcopy(bars)
            is_fewest(LOST, ((0, 1), bars))
            self.assertEqual(bars, before)
        for roads in [[[1, -1], [-1, 1]], [[1], []], [[1, [-1]], [-1, True]], [[-1, 1, -1, 1], [1, -1]]]:
            before = copy.deepcopy(roads)
            is_told(LOST, ("all", ("turn", roads[0], roads[1])))
            self.assertEqual(roads, before)

    def test_bars_and_roads_changed_later_are_told_of_anew(self):
        told = fewest_rows(LOST)
        self.assertIs(is_fewest(LOST, told), True)
        bar = told[1].pop()
        self.assertIs(is_fewest(LOST, told), False)
        told[1].insert(0, bar)
        self.assertIs(is_fewest(LOST, told), True)
        told = told_pairs(LOST)
        self.assertIs(is_told(LOST, told), True)
        told[1][1].reverse()
        self.assertIs(is_told(LOST, told), False)
        told[1][1].reverse()
        self.assertIs(is_told(LOST, told), True)

    def test_pairs_claims_stay_as_they_were(self):
        for claim in some_pairs(35):
            before = copy.deepcopy(claim)
            is_pairs(claim)
            is_told(claim, told_pairs(claim))
            self.assertEqual(claim, before)

    def test_lists_within_stay_as_they_were(self):
        claim = (["some"], [[1], [-1]])
        play = [True]
        tree = ("pick", True, ["each", ("kept",), [("kept",)]])
        before = copy.deepcopy((claim, play, tree))
        is_claim(claim)
        is_play(CLAIM, play)
        is_plan(CLAIM, "some", tree)
        self.assertEqual((claim, play, tree), before)

    def test_a_thing_changed_later_is_told_of_anew(self):
        part = []
        thing = ("pick", True, part)
        self.assertIs(is_plan((("some",), ()), "some", thing), False)
        part.append("kept")
        self.assertIs(is_plan((("some",), ()), "some", thing), False)
        self.assertEqual(part, ["kept"])

    def test_steps_stay_as_they_were(self):
        for claim in chance_claims(33, 60):
            for side, (told_paper, made_of, is_paper) in PAPERS.items():
                steps = first_steps(claim, side)[:20]
                if winner(claim, ()) == side:
                    steps = told_paper(claim)
                before = copy.deepcopy(steps)
                made_of(claim, steps)
                is_paper(claim, steps)
                if winner(claim, ()) == side and claim[0][:1] == (side,):
                    BY[side](claim, steps, ())
                self.assertEqual(steps, before)
                spoilt = steps + [["less", [0]]] + steps
                before = copy.deepcopy(spoilt)
                self.assertRaises(NoStep, made_of, claim, spoilt)
                is_paper(claim, spoilt)
                self.assertEqual(spoilt, before)

    def test_steps_changed_later_change_nothing_told(self):
        claim = (("some",), ((1,), (-1,)))
        steps = row_paper(claim)
        rows = rows_of(claim, steps)
        kept = list(rows)
        steps.clear()
        self.assertEqual(rows, kept)
        self.assertIs(is_row_paper(claim, steps), False)
        self.assertEqual(rows_of(claim, steps), [])

    def test_claims_and_plays_stay_as_they_were(self):
        for kinds, rows in chance_claims(31, 40):
            one, other = (kinds, rows), (kinds, rows[1:])
            before = copy.deepcopy((one, other))
            all_answers(one, other)
            self.assertEqual((one, other), before)


class ToldTest(unittest.TestCase):
    def test_a_told_list_is_the_asker_s_own(self):
        for claim in [CLAIM, (("some",), ()), (("some",), ((1,),)), (("all",), ()), ((), ())]:
            for play in plays(len(claim[0])):
                first = good_picks(claim, play)
                kept = list(first)
                first.append("x")
                first.reverse()
                self.assertEqual(good_picks(claim, play), kept)
                self.assertIsNot(good_picks(claim, play), good_picks(claim, play))
                first = good_picks(claim, play)
                first.clear()
                self.assertEqual(good_picks(claim, play), kept)

    def test_a_told_list_of_steps_or_rows_is_the_asker_s_own(self):
        for claim in chance_claims(34, 60) + [((), ()), ((), ((),))]:
            told_paper, made_of, is_paper = PAPERS[winner(claim, ())]
            kept = (told_paper(claim), made_of(claim, told_paper(claim)))
            steps = told_paper(claim)
            rows = made_of(claim, steps)
            self.assertIsNot(rows, steps)
            for told in (steps, rows):
                told.append("x")
                told.reverse()
                told[0] = None
            self.assertEqual((told_paper(claim), made_of(claim, kept[0])), kept)
            self.assertIs(is_paper(claim, kept[0]), True)
            steps.clear()
            rows.clear()
            self.assertEqual((told_paper(claim), made_of(claim, kept[0])), kept)

    def test_the_rows_of_no_steps_are_a_new_list(self):
        for made_of in (rows_of, terms_of):
            steps = []
            rows = made_of(CLAIM, steps)
            rows.append("x")
            self.assertEqual(steps, [])
            self.assertEqual(made_of(CLAIM, []), [])

    def test_told_lean_rows_are_the_asker_s_own(self):
        for claim in chance_claims(36, 80) + [((), ((),)), LOST]:
            if winner(claim, ()) == "all":
                kept = list(lean(claim))
                first = lean(claim)
                first.append("x")
                first[0] = None
                self.assertEqual(lean(claim), kept)
                first.clear()
                self.assertEqual(lean(claim), kept)

    def test_told_bars_are_the_asker_s_own(self):
        for claim in chance_claims(37, 80, 5, 6) + [((), ((),)), LOST]:
            if winner(claim, ()) == "all":
                kept = copy.deepcopy(fewest_rows(claim))
                first = fewest_rows(claim)
                first[1].reverse()
                first[1][0] = None
                self.assertEqual(fewest_rows(claim), kept)
                self.assertIs(is_fewest(claim, kept), True)
                first[1].clear()
                self.assertEqual(fewest_rows(claim), kept)

    def test_told_roads_are_the_asker_s_own(self):
        for claim in some_pairs(38):
            told = told_pairs(claim)
            kept = copy.deepcopy(told)
            if told[0] == "all" and told[1][0] != "empty":
                self.assertEqual(len({id(road) for road in told[1][1:]}), len(told[1]) - 1)
                for road in told[1][1:]:
                    road.reverse()
                    road[0] = None
                self.assertEqual(told_pairs(claim), kept)
                for road in told[1][1:]:
                    road.clear()
            self.assertEqual(told_pairs(claim), kept)
            self.assertIs(is_told(claim, kept), True)

    def test_pairs_hang_on_nothing_asked_ahead(self):
        claims = some_pairs(39)
        ahead = [told_pairs(claim) for claim in claims]
        back = [told_pairs(claim) for claim in reversed(claims)]
        self.assertEqual(ahead, back[::-1])

    def test_nothing_hangs_on_what_was_asked_ahead(self):
        claims = chance_claims(32, 30)
        pairs = [((kinds, rows), (kinds, rows[1:])) for kinds, rows in claims]
        ahead = [all_answers(one, other) for one, other in pairs]
        back = [all_answers(one, other) for one, other in reversed(pairs)]
        self.assertEqual(ahead, back[::-1])


def tried(asked, *parts):
    """What is answered, or the refusal's name."""
    try:
        return asked(*parts)
    except ClaimError as error:
        return type(error).__name__


# What a match, a keeper and a desk may be told, right and wrong, and what they may be asked.
TOLD = {
    "match": ([("pick", True), ("pick", False), ("back",), ("pick", 1), ("pick", [True])],
              [("play",), ("turn",), ("who",), ("good",), ("left",)]),
    "keeper": ([("put", (1, -2)), ("put", (-1, 3)), ("put", (2,)), ("put", [1]), ("put", (4,)), ("out", 0), ("out", 1),
                ("out", True), ("back",), ("put", (-2, -3)), ("put", (-1, 2))],
               [("claim",), ("winner",), ("plan",), ("paper",)]),
    "desk": ([("say", row) for row in ["row 1 -2", "row -1 3", "row 2", "row 4", "row", "out 0", "out 9", "back", "row 1 2",
                                       "row -2 -3", "kinds all x", "row -1 2", "row 0", "out 1"]],
             [("say", row) for row in ["winner", "winner y", "good", "good n", "plan", "least", "count", "paper", "lean",
                                       "early 1", "early 2", "show"]]),
}


def made(word):
    """A match, a keeper or a desk of the same kinds."""
    if word == "match":
        return Match(CLAIM)
    if word == "keeper":
        return Keeper(CLAIM[0])
    desk = Desk()
    desk.say("kinds " + " ".join(CLAIM[0]))
    return desk


def asked_of(thing, questions):
    """The answers to questions, each a method's name and what is handed in."""
    return [tried(getattr(thing, parts[0]), *parts[1:]) for parts in questions]


class KeptTest(unittest.TestCase):
    """A match, a keeper, a desk goes by what it was told, not by what it was asked."""

    def test_questions_in_another_order_twice_or_not_at_all(self):
        chance = random.Random(40)
        for word, (tellings, questions) in TOLD.items():
            for _ in range(40):
                silent, once, twice = made(word), made(word), made(word)
                for _ in range(12):
                    telling = [chance.choice(tellings)]
                    told = asked_of(silent, telling)
                    self.assertEqual(asked_of(once, telling), told)
                    self.assertEqual(asked_of(twice, telling), told)
                    answers = asked_of(once, questions)
                    self.assertEqual(asked_of(twice, questions[::-1])[::-1], answers)
                    self.assertEqual(asked_of(twice, questions), answers)
                self.assertEqual(asked_of(silent, questions), asked_of(once, questions))

    def test_two_side_by_side(self):
        chance = random.Random(41)
        for word, (tellings, questions) in TOLD.items():
            for _ in range(30):
                lists = [[chance.choice(tellings) for _ in range(10)] for _ in range(2)]
                alone = []
                for telling in lists:
                    thing = made(word)
                    alone.append((asked_of(thing, telling), asked_of(thing, questions)))
                both = [made(word), made(word)]
                answers = [[], []]
                for pair in zip(*lists):
                    for k in (0, 1):
                        answers[k] += asked_of(both[k], [pair[k]])
                self.assertEqual([(answers[k], asked_of(both[k], questions)) for k in (0, 1)], alone)

    def test_told_lists_are_the_asker_s_own(self):
        match, keeper = Match(CLAIM), Keeper(CLAIM[0])
        keeper.put((1, -2))
        for asked in (match.good, lambda: keeper.paper()[1]):
            kept = list(asked())
            asked().append("x")
            asked().reverse()
            asked().clear()
            self.assertEqual(asked(), kept)

    def test_what_is_handed_in_stays_and_is_not_kept(self):
        match, keeper, desk = Match(CLAIM), Keeper(CLAIM[0]), made("desk")
        for thing in [thing for thing in THINGS if type(thing) in (list, str, tuple) and thing not in ((), (1,))]:
            before = copy.deepcopy(thing)
            self.assertRaises(NoPick, match.pick, thing)
            self.assertRaises(NoRow, keeper.put, thing)
            self.assertRaises(NoRow, keeper.out, thing)
            self.assertEqual(thing, before)
            if type(thing) is list:
                thing = copy.deepcopy(thing)
                self.assertRaises(NoRow, keeper.put, thing)
                thing.append(1)
        self.assertEqual((match.play(), keeper.claim()), ((), (CLAIM[0], ())))
        kinds, text = ("all", "some"), "row 1 -2"
        keeper = Keeper(kinds)
        keeper.put((1,))
        desk.say(text)
        self.assertEqual((kinds, text), (("all", "some"), "row 1 -2"))

    def test_texts_stay_as_they_were(self):
        for text in ["all some\n1 -2\n", "all some\n1 -2", "(y+|n0)", "", "x\n"]:
            before = str(text)
            first = (tried(read_claim, text), read_tree(text))
            self.assertEqual(text, before)
            self.assertEqual((tried(read_claim, text), read_tree(text)), first)


class NumbersAndTruthsTest(unittest.TestCase):
    def test_truths_are_no_whole_numbers(self):
        self.assertIs(is_claim((("some",), ((1,),))), True)
        self.assertIs(is_claim((("some",), ((True,),))), False)
        self.assertIs(is_claim((("some",), ((False,),))), False)
        for number, answer in ((0, True), (1, True), (False, False), (True, False)):
            self.assertIs(is_plan(((), ((), ())), "all", ("lost", number)), answer)

    def test_truths_are_no_whole_numbers_in_rows_numbers(self):
        claim = (("some",), ((1,), (-1,)))
        self.assertIs(is_fewest(claim, ((0, 1), [(0,), (1,)])), True)
        for thing in [((False, 1), [(0,), (1,)]), ((0, True), [(0,), (1,)]), ((0, 1), [(False,), (1,)]),
                      ((0, 1), [(0,), (True,)]), ((0, 1), [(0,), (1,), (0, True)])]:
            self.assertIs(is_fewest(claim, thing), False)

    def test_truths_are_no_literals_of_pairs(self):
        self.assertIs(is_pairs((("some",), ((1,),))), True)
        self.assertIs(is_pairs((("some",), ((True,),))), False)
        self.assertIs(is_pairs((("some",), ((False,),))), False)
        self.assertIs(is_told(LOST, ("all", ("turn", [1, -1], [-1, 1]))), True)
        self.assertIs(is_told(LOST, ("all", ("turn", [True, -1], [-1, True]))), False)
        for claim, part, answer in [(((2,),), True, True), (((2,),), 1, False), (((1, -2), (-1, 2)), 1, True),
                                    (((1, -2), (-1, 2)), True, False), (((-2,),), False, True), (((-2,),), 0, False)]:
            self.assertIs(is_told((("all", "some"), claim), ("some", (None, part))), answer)
        for number, answer in ((0, True), (1, True), (False, False), (True, False)):
            self.assertIs(is_told(((), ((), ())), ("all", ("empty", number))), answer)

    def test_numbers_are_no_truths(self):
        for truth, answer in ((False, True), (True, True), (0, False), (1, False)):
            self.assertIs(is_play((("some",), ()), (truth,)), answer)
            self.assertIs(is_plan((("some",), ()), "some", ("pick", truth, ("kept",))), answer)


if __name__ == "__main__":
    unittest.main()
