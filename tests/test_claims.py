"""[4], [5], [6]: claims, plays, rows, and the claim left behind a play."""

import random
import unittest

from allsome.claims import is_claim, is_kept, is_lost, is_play, left
from tests.helper import (
    SIDES, THINGS, TRUTHS, chance_claims, full_plays, great_claims, plays, some_claim, tiny_claims,
)

CLAIM = (("all", "some", "some"), ((1, -2), (-1, 2, 3), ()))


class IsClaimTest(unittest.TestCase):
    def check(self, thing, answer):
        self.assertIs(is_claim(thing), answer, repr(thing)[:200])

    def test_claims(self):
        self.check(CLAIM, True)
        self.check(((), ()), True)
        self.check(((), ((),)), True)
        self.check(((), ((), (), ())), True)
        self.check((("some",), ()), True)
        self.check((("all",) * 8, ()), True)
        self.check((("all", "some") * 4, ((1, -2, 3, -4, 5, -6, 7, -8),)), True)
        self.check((("some",), ((1,), (-1,), (1,), ())), True)
        self.check((("some",), ((1,),) * 20), True)
        self.check((("some",), ((),) * 20), True)
        for claim in tiny_claims(2) + chance_claims(4, 200):
            self.check(claim, True)

    def test_names(self):
        self.check((("all",) * 9, ()), False)
        self.check((("some",) * 9, ((9,),)), False)
        for kind in ["", "ALL", "Some", "any", "all ", " some", "allsome", "s", 0, 1, True, None, (), ("all",), ["all"]]:
            self.check(((kind,), ()), False)
            self.check((("all", kind, "some"), ()), False)

    def test_rows(self):
        self.check((("some",), ((1,),) * 21), False)
        self.check((("some",), ((),) * 21), False)
        for count in (100, 1000):
            self.check((("some",), ((1,),) * count), False)

    def test_literals(self):
        for literal in [0, 3, -3, 4, 10 ** 29, -10 ** 29, True, False, None, "", "1", "-1", (), (1,), [], [1]]:
            self.check((("all", "some"), ((literal,),)), False)
            self.check((("all", "some"), ((1, 2), (literal,))), False)
            self.check((("all", "some"), ((-1, literal),)), False)
        self.check(((), ((1,),)), False)

    def test_each_name_once_and_rising(self):
        for row in [(1, 1), (1, -1), (-1, 1), (2, 1), (-2, 1), (2, -1), (1, 3, 2), (1, 3, 3), (1, 2, -1), (3, 1, 2)]:
            self.check((("all", "some", "all"), (row,)), False)
        self.check((("all", "some", "all"), ((-1, 2, -3), (1, 3), (-3,))), True)

    def test_lists_in_the_place_of_tuples(self):
        self.check([("some",), ((1,),)], False)
        self.check((["some"], ((1,),)), False)
        self.check((("some",), [(1,)]), False)
        self.check((("some",), ([1],)), False)
        self.check((("some",), ((1,), [])), False)
        self.check(([], ()), False)
        self.check(((), []), False)

    def test_a_part_more_or_fewer(self):
        self.check((), False)
        self.check((("some",),), False)
        self.check((("some",), ((1,),), ()), False)
        self.check((("some",), ((1,),), None), False)
        self.check((((1,),), ("some",)), False)

    def test_texts_are_no_tuples(self):
        self.check(("", ""), False)
        self.check(("", ()), False)
        self.check(((), ""), False)
        self.check((("some",), ("",)), False)
        self.check((("some",), "1"), False)

    def test_other_things(self):
        for thing in THINGS:
            self.check(thing, False)

    def test_other_things_within(self):
        for thing in THINGS:
            if isinstance(thing, tuple) or thing in SIDES:
                continue
            self.check((thing, ((1,),)), False)
            self.check((("some",), thing), False)
            self.check((("some", thing), ()), False)
            self.check((("some",), ((1,), thing)), False)
            if type(thing) is not int or abs(thing) != 1:
                self.check((("some",), ((thing,),)), False)


class IsPlayTest(unittest.TestCase):
    def check(self, claim, thing, answer):
        self.assertIs(is_play(claim, thing), answer, repr(thing)[:200])

    def test_plays_of_none_some_all_names(self):
        for many in range(4):
            claim = (("some", "all", "some")[:many], ((),))
            for play in plays(3):
                self.check(claim, play, len(play) <= many)
        eight = (("all",) * 8, ())
        self.check(eight, (True,) * 8, True)
        self.check(eight, (True,) * 9, False)

    def test_of_a_claim_of_many_rows(self):
        claim = (("some", "all"), ((1, 2),) * 1000)
        self.check(claim, (), True)
        self.check(claim, (False, True), True)
        self.check(claim, (False, True, True), False)

    def test_lists(self):
        for thing in [[], [True], [True, False, True], ([True],), ((True,),)]:
            self.check(CLAIM, thing, False)

    def test_what_is_no_truth(self):
        for thing in [0, 1, -1, 2, None, "", "True", "y", "no", (), (True,), [], [False]]:
            self.check(CLAIM, (thing,), False)
            self.check(CLAIM, (True, thing), False)
            self.check(CLAIM, (thing, False, True), False)

    def test_other_things(self):
        for thing in THINGS:
            self.check(CLAIM, thing, False)
            self.check((("all",) * 8, ()), thing, False)
            self.check(((), ()), thing, False)


class KeptAndLostTest(unittest.TestCase):
    def check(self, row, play, kept, lost):
        self.assertIs(is_kept(row, play), kept, (row, play))
        self.assertIs(is_lost(row, play), lost, (row, play))

    def test_the_empty_row_is_lost(self):
        for play in plays(3):
            self.check((), play, False, True)

    def test_one_literal(self):
        self.check((1,), (), False, False)
        self.check((1,), (True,), True, False)
        self.check((1,), (False,), False, True)
        self.check((-1,), (True,), False, True)
        self.check((-1,), (False,), True, False)
        self.check((2,), (True,), False, False)
        self.check((-2,), (False,), False, False)
        self.check((2,), (False, True), True, False)
        self.check((-8,), (True,) * 7 + (False,), True, False)

    def test_right_wrong_and_open(self):
        self.check((1, 2), (True,), True, False)
        self.check((1, 2), (False,), False, False)
        self.check((1, 2), (False, False), False, True)
        self.check((1, 2), (False, True), True, False)
        self.check((1, -2, 3), (False, True), False, False)
        self.check((1, -2, 3), (False, False), True, False)
        self.check((1, -2, 3), (False, True, False), False, True)
        self.check((1, 3), (False, True), False, False)

    def test_by_all_full_plays_behind(self):
        chance = random.Random(5)
        for _ in range(60):
            kinds, rows = some_claim(chance, 4, 1)
            for play in plays(4):
                ends = [any(full[abs(k) - 1] == (k > 0) for k in rows[0]) for full in full_plays(4, play)]
                self.check(rows[0], play, all(ends), not any(ends))


class LeftTest(unittest.TestCase):
    def check_kinds_of_things(self, claim):
        self.assertIs(type(claim), tuple)
        self.assertEqual(len(claim), 2)
        self.assertIs(type(claim[0]), tuple)
        self.assertIs(type(claim[1]), tuple)
        for row in claim[1]:
            self.assertIs(type(row), tuple)
            for literal in row:
                self.assertIs(type(literal), int)

    def test_behind_none_it_is_the_claim(self):
        for claim in [CLAIM, ((), ()), ((), ((),))] + chance_claims(6, 50) + great_claims(6):
            self.assertEqual(left(claim, ()), claim)
            self.check_kinds_of_things(left(claim, ()))

    def test_behind_some(self):
        self.assertEqual(left(CLAIM, (True,)), (("some", "some"), ((1, 2), ())))
        self.assertEqual(left(CLAIM, (False,)), (("some", "some"), ((-1,), ())))
        self.assertEqual(left(CLAIM, (True, False)), (("some",), ((1,), ())))
        self.assertEqual(left(CLAIM, (False, True)), (("some",), ((), ())))

    def test_behind_all(self):
        self.assertEqual(left(CLAIM, (True, False, False)), ((), ((), ())))
        self.assertEqual(left(CLAIM, (True, True, False)), ((), ((),)))
        self.assertEqual(left((("some",), ((1,),)), (True,)), ((), ()))
        self.assertEqual(left((("some",), ((1,),)), (False,)), ((), ((),)))

    def test_rows_alike_and_their_order_stay(self):
        claim = (("all", "some", "all"), ((2, -3), (1, 2), (2,), (-1, 3), (1, 2), (-3,)))
        self.assertEqual(left(claim, (False,)), (("some", "all"), ((1, -2), (1,), (1,), (1,), (-2,))))
        self.assertEqual(left(claim, (True,)), (("some", "all"), ((1, -2), (1,), (2,), (-2,))))

    def test_by_its_words(self):
        for claim in chance_claims(7, 60) + great_claims(7):
            for play in plays(len(claim[0]))[::7]:
                many = len(play)
                wanted = []
                for row in claim[1]:
                    if not any(abs(k) <= many and play[abs(k) - 1] == (k > 0) for k in row):
                        wanted.append(tuple(k - many if k > 0 else k + many for k in row if abs(k) > many))
                told = left(claim, play)
                self.assertEqual(told, (claim[0][many:], tuple(wanted)))
                self.check_kinds_of_things(told)

    def test_left_twice_is_left_once(self):
        for claim in chance_claims(8, 40, 4):
            for play in plays(len(claim[0])):
                for truth in TRUTHS:
                    if len(play) < len(claim[0]):
                        self.assertEqual(left(left(claim, play), (truth,)), left(claim, play + (truth,)))

    def test_more_than_twenty_rows(self):
        claim = (("some", "all"), ((1, 2),) * 500 + ((-1, -2),) * 500)
        self.assertEqual(left(claim, (True,)), (("all",), ((-1,),) * 500))
        self.assertEqual(left(claim, (False, False)), ((), ((),) * 500))


if __name__ == "__main__":
    unittest.main()
