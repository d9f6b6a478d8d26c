"""[3], [18]: rows that matter: needless ones, lean ones, fewest ones with their bars."""

import itertools
import random
import unittest

from allsome.cores import fewest_rows, is_fewest, is_needless, lean
from allsome.errors import ClaimError, NotWon, TooMany
from allsome.games import winner
from allsome.rowpapers import row_paper, rows_of
from tests.helper import (
    SIDES, THINGS, chance_claims, chance_steps, chosen_rows, gone_back, great_claims, lost_in, made, rows_over,
    some_claim, tiny_claims, winner_of,
)

# Rows 0 and 2 are alike, so All wins by rows 0 and 1 or by rows 1 and 2.
TWICE = (("some",), ((1,), (-1,), (1,)))
# All wins by its three first rows alone, of which each one is needed.
THREE = (("some", "some"), ((1,), (-1, 2), (-2,), (1, -2)))


def row_left_out(claim, k):
    """The claim without row k."""
    return (claim[0], claim[1][:k] + claim[1][k + 1:])


def slow_lean(claim):
    """The lean rows, by leaving out row by row and going back each time."""
    lost = [lost_in(row, len(claim[0])) for row in claim[1]]
    count = {}
    for play in itertools.chain(*lost):
        count[play] = count.get(play, 0) + 1
    stay = []
    for number in range(len(lost) - 1, -1, -1):
        for play in lost[number]:
            count[play] -= 1
        if gone_back(claim[0], {play for play, times in count.items() if times}) == "some":
            stay.insert(0, number)
            for play in lost[number]:
                count[play] += 1
    return stay


def choices(many, sizes):
    """All rising tuples of numbers below many of these sizes."""
    return [choice for size in sizes for choice in itertools.combinations(range(many), size)]


def won_by_all(claim):
    """The choices of rows by which alone All wins, by going back."""
    return {choice for choice in choices(len(claim[1]), range(len(claim[1]) + 1))
            if winner_of(chosen_rows(claim, choice)) == "all"}


def is_right_fewest(claim, won, numbers, bars):
    """Whether numbers and bars, both of rising tuples, are so; won as won_by_all finds them."""
    many = len(claim[1])
    if numbers not in won or any(tuple(k for k in range(many) if k not in bar) in won for bar in bars):
        return False
    fewer = choices(many, range(len(numbers)))
    return all(any(not set(bar) & set(choice) for bar in bars) for choice in fewer)


class NeedlessTest(unittest.TestCase):
    def check(self, claim):
        for k in range(len(claim[1])):
            same = winner_of(row_left_out(claim, k)) == winner_of(claim)
            self.assertIs(is_needless(claim, k), same, (claim, k))
            self.needed += not same

    def setUp(self):
        self.needed = 0

    def test_all_tiny_claims(self):
        for claim in tiny_claims(3):
            self.check(claim)

    def test_claims_by_chance(self):
        for claim in chance_claims(211, 300, 6, 8):
            self.check(claim)
        self.assertGreater(self.needed, 50)

    def test_claims_of_more_than_twenty_rows(self):
        chance = random.Random(212)
        for count in (21, 60):
            for _ in range(3):
                self.check(some_claim(chance, 8, count, 0.8))

    def test_where_some_wins_no_row_is_needed(self):
        for claim in chance_claims(213, 100):
            if winner_of(claim) == "some":
                self.assertEqual([is_needless(claim, k) for k in range(len(claim[1]))], [True] * len(claim[1]))

    def test_by_hand(self):
        self.assertEqual([is_needless(THREE, k) for k in range(4)], [False, False, False, True])
        self.assertEqual([is_needless(TWICE, k) for k in range(3)], [True, False, True])
        self.assertIs(is_needless(((), ((),)), 0), False)
        self.assertEqual([is_needless(((), ((), ())), k) for k in (0, 1)], [True, True])


class LeanTest(unittest.TestCase):
    def check(self, claim):
        if winner_of(claim) == "some":
            with self.assertRaises(NotWon, msg=claim) as caught:
                lean(claim)
            self.assertIsInstance(caught.exception, ClaimError)
            return
        told = lean(claim)
        self.assertIs(type(told), list)
        self.assertEqual(told, slow_lean(claim), claim)
        self.assertEqual({type(number) for number in told}, {int})
        self.assertEqual(winner_of(chosen_rows(claim, told)), "all", claim)
        for number in told:
            rest = [other for other in told if other != number]
            self.assertEqual(winner_of(chosen_rows(claim, rest)), "some", (claim, number))
        self.longest = max(self.longest, len(told))

    def setUp(self):
        self.longest = 0

    def test_all_tiny_claims(self):
        for claim in tiny_claims(3):
            self.check(claim)

    def test_claims_by_chance(self):
        for claim in chance_claims(214, 400, 6, 14):
            self.check(claim)
        self.assertGreater(self.longest, 4)

    def test_claims_of_hundreds_of_rows(self):
        chance = random.Random(215)
        for count in (21, 100, 300, 500):
            for share in (0.7, 0.9):
                self.check(some_claim(chance, 8, count, share))
        self.check((("some",) * 5, tuple(rows_over(5)[1:])))
        self.assertGreater(self.longest, 10)

    def test_all_rows_are_lean(self):
        for many in range(1, 7):
            full = [row for row in rows_over(many) if len(row) == many]
            claim = (("some",) * many, tuple(full))
            self.assertEqual(lean(claim), list(range(len(full))))
            self.assertEqual(lean((claim[0], claim[1] * 3)), list(range(len(full))))
            self.assertRaises(NotWon, lean, (claim[0], claim[1][1:]))

    def test_without_rows_and_with_the_empty_row(self):
        for kinds in [(), ("all",), ("some",), ("all", "some") * 4]:
            self.assertRaises(NotWon, lean, (kinds, ()))
            self.assertEqual(lean((kinds, ((),))), [0])
            self.assertEqual(lean((kinds, ((),) * 300)), [0])

    def test_left_out_from_the_last_row_to_the_first(self):
        self.assertEqual(lean(TWICE), [0, 1])
        self.assertEqual(lean((("some",), ((), (1,), (-1,)))), [0])
        # The empty row, the last one, is left out first, though alone it would do.
        self.assertEqual(lean((("some",), ((1,), (-1,), ()))), [0, 1])
        self.assertEqual(lean(THREE), [0, 1, 2])

    def test_not_won_of_more_than_six_rows(self):
        for count in (7, 20, 400):
            self.assertRaises(NotWon, lean, (("some",), ((1,),) * count))

    def test_great_claims(self):
        for claim in great_claims(216)[:10]:
            self.check(claim)

    def test_lean_rows_alone_let_all_win(self):
        tried = 0
        for claim in chance_claims(217, 200, 6, 12) + great_claims(218):
            if winner(claim, ()) == "all":
                told = lean(claim)
                self.assertEqual(winner(chosen_rows(claim, told), ()), "all")
                alone = chosen_rows(claim, told)
                self.assertEqual([is_needless(alone, k) for k in range(len(told))], [False] * len(told))
                self.assertEqual(lean(alone), list(range(len(told))))
                tried += 1
        self.assertGreater(tried, 50)


class MadeRowsTest(unittest.TestCase):
    """[3], [11]: a row made by a row paper's steps is needless when it is put to the claim."""

    def test_rows_made_by_told_papers(self):
        for claim in chance_claims(219, 150, 5, 8):
            if winner(claim, ()) == "all":
                for row in rows_of(claim, row_paper(claim)):
                    self.assertIs(is_needless((claim[0], claim[1] + (row,)), len(claim[1])), True, (claim, row))

    def test_rows_made_by_steps_of_chance(self):
        chance = random.Random(220)
        for claim in chance_claims(221, 150, 5, 6):
            steps = chance_steps(chance, claim, "all", 12)
            self.assertEqual(rows_of(claim, steps), made(claim, "all", steps))
            for row in rows_of(claim, steps):
                for place in (0, len(claim[1])):
                    more = (claim[0], claim[1][:place] + (row,) + claim[1][place:])
                    self.assertIs(is_needless(more, place), True, (claim, row))


class FewestRowsTest(unittest.TestCase):
    def check(self, claim):
        won = won_by_all(claim)
        if not won:
            self.assertRaises(NotWon, fewest_rows, claim)
            return
        told = fewest_rows(claim)
        self.assertEqual([type(part) for part in told], [tuple, list])
        self.assertIs(type(told), tuple)
        for part in [told[0]] + told[1]:
            self.assertIs(type(part), tuple)
            self.assertEqual(list(part), sorted(set(part)))
            self.assertTrue(all(type(number) is int and 0 <= number < len(claim[1]) for number in part))
        self.assertEqual(len(told[0]), min(map(len, won)), claim)
        self.assertTrue(is_right_fewest(claim, won, *told), (claim, told))
        self.assertIs(is_fewest(claim, told), True, (claim, told))
        self.sizes.add(len(told[0]))

    def setUp(self):
        self.sizes = set()

    def test_all_tiny_claims(self):
        for claim in tiny_claims(3):
            self.check(claim)

    def test_claims_by_chance(self):
        for claim in chance_claims(222, 500, 5, 6):
            self.check(claim)
        self.assertGreaterEqual(self.sizes, {1, 2, 3})

    def test_each_size(self):
        # A chain in which each row is needed.
        for count in range(1, 7):
            many = max(1, count - 1)
            chain = [()] if count == 1 else [(1,)] + [(-k, k + 1) for k in range(1, many)] + [(-many,)]
            for spare in range(7 - count):
                self.check((("some",) * many, tuple(chain) + ((1,),) * spare))
        self.assertEqual(self.sizes, set(range(1, 7)))

    def test_eight_names(self):
        chance = random.Random(223)
        for _ in range(40):
            self.check(some_claim(chance, 8, chance.randint(1, 6), 0.4))

    def test_too_many_of_seven_rows_and_more(self):
        for count in (7, 8, 20, 21, 500):
            with self.assertRaises(TooMany) as caught:
                fewest_rows((("some",), ((),) * count))
            self.assertIsInstance(caught.exception, ClaimError)
        self.assertEqual(fewest_rows((("some",), ((),) * 6))[0][1:], ())

    def test_not_won_ahead_of_too_many(self):
        for count in (0, 1, 6, 7, 8, 20, 500):
            for kinds in [("some",), ("some", "all")]:
                with self.assertRaises(NotWon) as caught:
                    fewest_rows((kinds, ((1,),) * count))
                self.assertIsInstance(caught.exception, ClaimError)

    def test_where_the_lean_rows_are_not_the_fewest(self):
        claim = (("some", "some"), ((1,), (-1, 2), (-2,), ()))
        self.assertEqual(lean(claim), [0, 1, 2])
        self.assertEqual(fewest_rows(claim)[0], (3,))
        self.assertEqual([is_needless(claim, k) for k in range(4)], [True] * 4)


class IsFewestTest(unittest.TestCase):
    def check(self, claim, thing, answer):
        self.assertIs(is_fewest(claim, thing), answer, str((claim, thing))[:500])

    def test_all_things_of_rising_tuples(self):
        for claim in [TWICE, ((), ((),)), ((), ((), ())), (("all",), ((1,), (-1,))), (("some",), ((1,), (-1,), ()))]:
            won = won_by_all(claim)
            every = choices(len(claim[1]), range(len(claim[1]) + 1))
            for numbers in every:
                for size in range(5):
                    for bars in itertools.combinations(every, size):
                        answer = is_right_fewest(claim, won, numbers, bars)
                        self.check(claim, (numbers, list(bars)), answer)
                        self.check(claim, (numbers, list(reversed(bars)) + list(bars)), answer)

    def test_things_by_chance(self):
        chance = random.Random(224)
        seen = {True: 0, False: 0}
        for claim in chance_claims(225, 400, 5, 6):
            won = won_by_all(claim)
            if won:
                every = choices(len(claim[1]), range(len(claim[1]) + 1))
                barred = [bar for bar in every if tuple(k for k in range(len(claim[1])) if k not in bar) not in won]
                for _ in range(6):
                    numbers = chance.choice(sorted(won, key=len)[:2])
                    bars = chance.sample(barred, chance.randint(len(barred) // 2, len(barred)))
                    answer = is_right_fewest(claim, won, numbers, bars)
                    self.check(claim, (numbers, bars), answer)
                    seen[answer] += 1
        self.assertGreater(min(seen.values()), 50)

    def test_other_right_ones(self):
        for numbers in ((0, 1), (1, 2)):
            self.check(TWICE, (numbers, [(1,), (0, 2)]), True)
            self.check(TWICE, (numbers, [(0, 2), (1,)]), True)
            self.check(TWICE, (numbers, [(0, 2), (1,), (0, 1), (1, 2), (0, 1, 2), (1,)]), True)
        told = fewest_rows(THREE)
        self.assertEqual(told[0], (0, 1, 2))
        self.check(THREE, ((0, 1, 2), told[1][::-1]), True)
        self.check(THREE, ((0, 1, 2), told[1] * 100), True)
        # Some wins without any one of the three first rows.
        self.check(THREE, ((0, 1, 2), [(0,), (1,), (2,)]), True)
        self.check(THREE, ((0, 1, 2), [(0,), (1,), (2,), (0, 3), (0, 1, 2, 3)]), True)

    def test_a_bar_left_out(self):
        for k in range(3):
            bars = [(0,), (1,), (2,)]
            bars.pop(k)
            self.check(THREE, ((0, 1, 2), bars), False)
        self.check(THREE, ((0, 1, 2), []), False)
        self.check(TWICE, ((0, 1), [(1,)]), False)
        self.check(TWICE, ((0, 1), [(0, 2)]), False)
        # The choice of none has none of a bar only where there is a bar.
        self.check(((), ((),)), ((0,), []), False)
        self.check(((), ((),)), ((0,), [(0,)]), True)

    def test_a_bar_that_is_none(self):
        good = [(0,), (1,), (2,)]
        for bar in [(), (3,), (4,), (0, 4), (-1,), (-1, 0), (0, 0), (1, 0), (0, 0, 1), (True,), (False,), (0, True),
                    (False, 1), [0], [], "0", 0, None, True, (None,), ("0",), ((0,),), ([0],), (10 ** 29,)]:
            self.check(THREE, ((0, 1, 2), good + [bar]), False)
            self.check(THREE, ((0, 1, 2), [bar] + good), False)

    def test_numbers_that_are_none(self):
        bars = [(0,), (1,), (2,)]
        self.check(THREE, ((0, 1, 2), bars), True)
        for numbers in [(0, 1), (0, 2), (1, 2), (0, 1, 2, 3), (0, 1, 3), (0, 0, 1, 2), (0, 1, 2, 2), (0, 2, 1),
                        (2, 1, 0), (0, 1, 2, 4), (0, 1, 4), (-1, 0, 1, 2), (-4, -3, -2), (False, 1, 2), (0, True, 2),
                        (False, True, 2), (), [0, 1, 2], (0, 1, 2, None), (0, 1, "2"), (0, 1, (2,)), (0, 1, [2]),
                        "012", 0, None, True, 10 ** 29, (0, 1, 2, 10 ** 29)]:
            self.check(THREE, (numbers, bars), False)

    def test_more_rows_than_the_fewest(self):
        claim = (("some",), ((1,), (-1,), ()))
        self.check(claim, ((2,), [(0, 2)]), True)
        self.check(claim, ((2,), [(1, 2)]), True)
        for bars in ([(0, 2)], [(0, 2), (1, 2)], [(0, 1, 2)], []):
            self.check(claim, ((0, 1), bars), False)

    def test_truths_where_the_numbers_would_do(self):
        claim = ((), ((), ()))
        self.check(claim, ((0,), [(0, 1)]), True)
        self.check(claim, ((1,), [(0, 1)]), True)
        for number in (False, True):
            self.check(claim, ((number,), [(0, 1)]), False)
            self.check(claim, ((0,), [(0, 1), (number,)]), False)
        self.check(claim, ((0,), [(False, 1)]), False)
        self.check(claim, ((0,), [(0, True)]), False)

    def test_lists_and_tuples_exchanged(self):
        told = fewest_rows(THREE)
        self.check(THREE, told, True)
        self.check(THREE, list(told), False)
        self.check(THREE, (list(told[0]), told[1]), False)
        self.check(THREE, (told[0], tuple(told[1])), False)
        self.check(THREE, (told[0], [list(bar) for bar in told[1]]), False)
        self.check(THREE, (told[0], told[1][:-1] + [list(told[1][-1])]), False)

    def test_a_part_more_or_fewer(self):
        told = fewest_rows(THREE)
        for thing in [(), told[:1], told[1:], told + ((),), told + ([],), told + (None,), told + told, told[::-1]]:
            self.check(THREE, thing, False)

    def test_other_things(self):
        claims = [((), ((),)), TWICE, THREE, (("all",) * 8, ((8,),) * 6)]
        for claim in claims:
            self.assertEqual(winner_of(claim), "all")
            told = fewest_rows(claim)
            # These two may be numbers, or a bar.
            for thing in [thing for thing in THINGS if thing not in ((0,), (1,))]:
                for whole in (thing, (thing, told[1]), (told[0], thing), (told[0], told[1] + [thing])):
                    self.check(claim, whole, False)

    def test_a_thing_of_many_bars(self):
        self.check(THREE, ((0, 1, 2), [(0,), (1,), (2,)] * 700), True)
        self.check(THREE, ((0, 1, 2), [(0,), (1,)] * 1000), False)

    def test_kinds_of_claims(self):
        for kinds in itertools.product(SIDES, repeat=3):
            for rows in itertools.combinations(rows_over(3)[::3], 3):
                claim = (kinds, rows)
                if winner(claim, ()) == "all":
                    self.check(claim, fewest_rows(claim), True)


if __name__ == "__main__":
    unittest.main()
