"""[22]: rows as they come."""

import random
import unittest

from allsome.errors import ClaimError, NoBack, NoRow, TooMany
from allsome.keeper import Keeper
from allsome.plans import is_plan
from allsome.rowpapers import is_row_paper
from allsome.termpapers import is_term_paper
from tests.helper import SIDES, THINGS, is_right_plan, made, rows_over, winner_of

KINDS = ("all", "some", "all")
NO_ROWS = [
    (4,), (-4,), (1, 4), (1, 1), (1, -1), (2, 1), (-3, 2), (0,), (0, 1), (1, 0), (True,), (False,), (True, 2), (1, True),
    "", "1", "1 2", [], [1], [1, 2], [[1]], 1, 0, -1, None, True, False, (None,), ("1",), ((1,),), ([1],), (1, "2"),
    (10 ** 29,), (1, 2, 3, 4),
]
NO_NUMBERS = [-1, -2, -20, 20, 21, 1000, 10 ** 29, -(10 ** 29), True, False, None, "", "0", "1", (), (0,), [], [0]]


class KeeperTest(unittest.TestCase):
    def refused(self, error, asked, *parts):
        with self.assertRaises(error, msg=str(parts)[:200]) as caught:
            asked(*parts)
        self.assertIs(type(caught.exception), error)
        self.assertIsInstance(caught.exception, ClaimError)

    def check(self, keeper, kinds, rows):
        """All that a keeper tells, against a claim and a going back."""
        claim = (kinds, tuple(rows))
        self.assertEqual(keeper.claim(), claim)
        self.assertEqual([type(part) for part in keeper.claim()], [tuple, tuple])
        side = winner_of(claim)
        self.assertEqual(keeper.winner(), side)
        told = keeper.plan()
        self.assertIs(type(told), tuple)
        self.assertEqual((len(told), told[0]), (2, side))
        self.assertIs(is_plan(claim, side, told[1]), True)
        self.assertTrue(is_right_plan(claim, side, told[1]))
        told = keeper.paper()
        self.assertIs(type(told), tuple)
        self.assertEqual((len(told), told[0], type(told[1])), (2, side, list))
        self.assertIs((is_row_paper if side == "all" else is_term_paper)(claim, told[1]), True)
        self.assertEqual(made(claim, side, told[1])[-1], ())

    def drawn(self, chance, kinds, how_many, backs=0.15):
        """Puts, outs and backs by draws, all that is refused among them, against a list that is kept here."""
        keeper = Keeper(kinds)
        rows, past = [], []
        every = rows_over(len(kinds))
        for _ in range(how_many):
            draw = chance.random()
            if draw < 0.45:
                row = chance.choice(every)
                if len(rows) == 20:
                    self.refused(TooMany, keeper.put, row)
                else:
                    past.append(list(rows))
                    self.assertEqual(keeper.put(row), len(rows))
                    rows.append(row)
            elif draw < 0.8 - backs:
                number = chance.randint(-1, 20)
                if 0 <= number < len(rows):
                    past.append(list(rows))
                    self.assertIsNone(keeper.out(number))
                    rows.pop(number)
                else:
                    self.refused(NoRow, keeper.out, number)
            elif draw < 0.8 and past:
                self.assertIsNone(keeper.back())
                rows = past.pop()
            elif draw < 0.8:
                self.refused(NoBack, keeper.back)
            elif draw < 0.9:
                self.refused(NoRow, keeper.put, chance.choice([(len(kinds) + 1,), (0,), [1], "1", None, (True,)]))
            else:
                self.refused(NoRow, keeper.out, chance.choice(NO_NUMBERS))
            self.assertEqual(keeper.claim(), (kinds, tuple(rows)))
            if chance.random() < 0.2:
                self.check(keeper, kinds, rows)
        return keeper, past

    def test_by_draws(self):
        chance = random.Random(261)
        for _ in range(60):
            kinds = tuple(chance.choice(SIDES) for _ in range(chance.randint(0, 5)))
            self.drawn(chance, kinds, 60)

    def test_claims_of_eight_names(self):
        chance = random.Random(262)
        for kinds in [("all", "some") * 4, ("some",) * 8, ("all",) * 8]:
            self.drawn(chance, kinds, 60)

    def test_hundreds_all_taken_back(self):
        chance = random.Random(263)
        for kinds in [(), KINDS]:
            keeper, past = self.drawn(chance, kinds, 900, 0.05)
            self.assertGreater(len(past), 300)
            for rows in reversed(past):
                self.assertIsNone(keeper.back())
                self.assertEqual(keeper.claim(), (kinds, tuple(rows)))
            self.assertEqual(keeper.claim(), (kinds, ()))
            self.refused(NoBack, keeper.back)

    def test_at_first(self):
        for kinds in [(), ("all",), KINDS, ("some",) * 8]:
            keeper = Keeper(kinds)
            self.check(keeper, kinds, [])
            self.refused(NoBack, keeper.back)
            self.refused(NoRow, keeper.out, 0)
            self.check(keeper, kinds, [])

    def test_by_hand(self):
        keeper = Keeper(("some",))
        self.assertEqual(keeper.put((1,)), 0)
        self.assertEqual(keeper.put((-1,)), 1)
        self.assertEqual(keeper.put(()), 2)
        self.assertEqual((keeper.claim(), keeper.winner()), ((("some",), ((1,), (-1,), ())), "all"))
        keeper.out(2)
        keeper.out(0)
        self.assertEqual(keeper.claim(), (("some",), ((-1,),)))
        self.assertEqual((keeper.winner(), keeper.plan()), ("some", ("some", ("pick", False, ("kept",)))))
        self.assertEqual(keeper.put((1,)), 1)
        self.assertEqual(keeper.claim(), (("some",), ((-1,), (1,))))
        keeper.back()
        keeper.back()
        self.assertEqual(keeper.claim(), (("some",), ((1,), (-1,))))
        self.assertEqual(keeper.winner(), "all")
        keeper.back()
        self.assertEqual(keeper.claim(), (("some",), ((1,), (-1,), ())))

    def test_an_out_taken_back_stands_at_its_place(self):
        for number in range(5):
            keeper = Keeper(("some",) * 5)
            rows = [(k,) for k in range(1, 6)]
            for row in rows:
                keeper.put(row)
            keeper.out(number)
            self.assertEqual(keeper.claim()[1], tuple(rows[:number] + rows[number + 1:]))
            keeper.back()
            self.assertEqual(keeper.claim()[1], tuple(rows))

    def test_like_rows_are_rows_of_their_own(self):
        keeper = Keeper(("some",))
        self.assertEqual([keeper.put((1,)), keeper.put((1,)), keeper.put((1,))], [0, 1, 2])
        keeper.out(1)
        self.assertEqual(keeper.claim()[1], ((1,), (1,)))

    def test_no_row(self):
        for rows in [[], [(1, 2)], [(1,)] * 19, [(1,)] * 20]:
            keeper = Keeper(KINDS)
            for row in rows:
                keeper.put(row)
            for thing in NO_ROWS + [thing for thing in THINGS if thing not in ((1,), ())]:
                self.refused(NoRow, keeper.put, thing)
            self.check(keeper, KINDS, rows)

    def test_too_many(self):
        keeper = Keeper(KINDS)
        for number in range(20):
            self.assertEqual(keeper.put((1, 2)), number)
        for row in [(), (1,), (1, 2), (-1, -2, -3)]:
            self.refused(TooMany, keeper.put, row)
        self.check(keeper, KINDS, [(1, 2)] * 20)
        keeper.out(7)
        self.assertEqual(keeper.put((3,)), 19)
        self.refused(TooMany, keeper.put, ())
        keeper.back()
        self.assertEqual(keeper.put(()), 19)
        self.refused(TooMany, keeper.put, ())

    def test_no_row_of_this_number(self):
        for rows in [[], [(1,)], [(1,), (2,)], [(1,)] * 20]:
            keeper = Keeper(KINDS)
            for row in rows:
                keeper.put(row)
            for thing in NO_NUMBERS + [len(rows), -len(rows) - 1]:
                self.refused(NoRow, keeper.out, thing)
            for thing in THINGS:
                if type(thing) is not int or not 0 <= thing < len(rows):
                    self.refused(NoRow, keeper.out, thing)
            self.check(keeper, KINDS, rows)

    def test_what_is_refused_is_not_taken_back(self):
        keeper = Keeper(KINDS)
        keeper.put((1,))
        keeper.put((2,))
        self.refused(NoRow, keeper.put, (4,))
        self.refused(NoRow, keeper.out, 2)
        keeper.back()
        self.assertEqual(keeper.claim()[1], ((1,),))
        for _ in range(19):
            keeper.put(())
        self.refused(TooMany, keeper.put, ())
        keeper.back()
        self.assertEqual(len(keeper.claim()[1]), 19)

    def test_two_side_by_side(self):
        one, other = Keeper(KINDS), Keeper(KINDS)
        one.put((1,))
        self.refused(NoBack, other.back)
        self.assertEqual(other.put((2,)), 0)
        one.put((3,))
        other.out(0)
        self.assertEqual((one.claim()[1], other.claim()[1]), (((1,), (3,)), ()))
        one.back()
        self.assertEqual((one.claim()[1], other.claim()[1]), (((1,),), ()))
        other.back()
        self.assertEqual((one.claim()[1], other.claim()[1]), (((1,),), ((2,),)))

    def test_told_steps_are_the_asker_s_own(self):
        for rows in [[(1,)], [(2,)], [()]]:
            keeper = Keeper(KINDS)
            for row in rows:
                keeper.put(row)
            kept = list(keeper.paper()[1])
            keeper.paper()[1].clear()
            keeper.paper()[1].append(None)
            self.assertEqual(keeper.paper()[1], kept)

    def test_a_list_that_is_no_row_is_not_kept(self):
        keeper = Keeper(KINDS)
        row = [1]
        self.refused(NoRow, keeper.put, row)
        row.append(2)
        self.assertEqual((row, keeper.claim()), ([1, 2], (KINDS, ())))

    def test_what_was_told_stays(self):
        keeper = Keeper(KINDS)
        keeper.put((1,))
        before = keeper.claim()
        keeper.put((2,))
        keeper.out(0)
        self.assertEqual(before, (KINDS, ((1,),)))


if __name__ == "__main__":
    unittest.main()
