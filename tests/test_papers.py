"""[3], [11], [12]: row papers and term papers, made, told and looked over.

Both kinds go through the same tests, with the sides exchanged.
"""

import itertools
import random
import unittest

from allsome.errors import ClaimError, NoStep, NotWon
from allsome.games import winner
from allsome.rowpapers import is_row_paper, row_paper, rows_of
from allsome.termpapers import is_term_paper, term_paper, terms_of
from tests.helper import (
    SIDES, THINGS, chance_claims, chance_steps, first_steps, great_claims, joined, lessened, made, moved_on, rows_over,
    some_claim, terms_for, tiny_claims, winners,
)

MADE_OF = {"all": rows_of, "some": terms_of}
PAPER = {"all": row_paper, "some": term_paper}
IS_PAPER = {"all": is_row_paper, "some": is_term_paper}
WORD = {"all": "row", "some": "term"}

FULL = tuple(row for row in rows_over(8) if len(row) == 8)

# Three names and rows with enough to join; each side has a name of its own behind and ahead.
WIDE = {
    "all": (("all", "some", "all"), ((1, 2, 3), (1, -2), (-2, -3), (-1, 2), (), (2,), (3,), (1, 3))),
    "some": (("some", "all", "some"), ((1, 2, 3), (-1, 2, 3), (1, -2, 3))),
}

# What stands in a step's place of a number or a name and is none.
NO_NUMBERS = [True, False, None, "0", "", "1", (), (0,), [], [0], 10 ** 29, -10 ** 29, -1, -2]


def other(side):
    return "some" if side == "all" else "all"


def late_claims():
    """Claims of eight names that need many steps: full rows, and rows for an even or odd count."""
    chance = random.Random(50)
    found = []
    for kinds in itertools.product(SIDES, repeat=8):
        if chance.random() < 0.1 or kinds.count("all") in (0, 1, 7, 8):
            found.append((kinds, FULL))
            found.append((kinds, tuple(row for row in FULL if sum(k > 0 for k in row) % 2)))
            found.append((kinds, tuple(row for row in FULL if chance.random() < 0.3)))
    return found


class StepsTest(unittest.TestCase):
    """What steps make."""

    def refused(self, side, claim, steps, number):
        with self.assertRaises(NoStep) as caught:
            MADE_OF[side](claim, steps)
        self.assertIs(type(caught.exception.step), int)
        self.assertEqual(caught.exception.step, number, (side, claim, repr(steps)[-200:]))
        self.assertIs(IS_PAPER[side](claim, steps), False)

    def makes(self, side, claim, steps, rows):
        told = MADE_OF[side](claim, steps)
        self.assertIs(type(told), list)
        self.assertEqual(told, rows, (side, claim, steps))
        for row in told:
            self.assertIs(type(row), tuple)
            self.assertEqual({type(literal) for literal in row} - {int}, set())

    def test_no_steps(self):
        for side in SIDES:
            self.makes(side, ((), ()), [], [])
            self.makes(side, WIDE[side], [], [])

    def test_rows(self):
        rows = ((1, -2), (), (2,), (2,))
        claim = (("all", "some"), rows)
        self.makes("all", claim, [("row", k) for k in range(4)], list(rows))
        self.makes("all", claim, [("row", 3), ("row", 0), ("row", 3)], [rows[3], rows[0], rows[3]])
        for k in [4, 5, 1000] + NO_NUMBERS:
            self.refused("all", claim, [("row", k)], 0)
            self.refused("all", claim, [("row", 0), ("row", 3), ("row", k), ("row", 0)], 2)
        self.refused("all", ((), ()), [("row", 0)], 0)
        many = (("some",), ((1,),) * 999 + ((-1,),))
        self.makes("all", many, [("row", 999), ("row", 0)], [(-1,), (1,)])
        self.refused("all", many, [("row", 1000)], 0)

    def test_all_terms(self):
        for claim in tiny_claims(2) + chance_claims(51, 60, 3, 4):
            right = terms_for(claim)
            for term in rows_over(len(claim[0])):
                if term in right:
                    self.makes("some", claim, [("term", term)], [term])
                else:
                    self.refused("some", claim, [("term", term)], 0)

    def test_terms_that_are_none(self):
        claim = (("some", "all", "some"), ((1, 2), (2, 3)))
        self.makes("some", claim, [("term", (2,)), ("term", (1, -2, 3))], [(2,), (1, -2, 3)])
        for term in [(), (1,), (-2,), (1, -3), (1, -2), (-1, -2, -3)]:
            self.refused("some", claim, [("term", term)], 0)
        for term in [
            (2, 1), (2, 2), (2, -2), (-2, 2), (1, 2, 2), (3, 2), (0, 2), (2, 4), (2, -4), (2, True), (True, 2),
            (False, 2), (1, 2, True), ("1", 2), (None, 2), ((), 2), (2, []), (2, (3,)), [2], [1, 2], ["2"],
            "2", 2, None, True, (2, 10 ** 29), (-10 ** 29, 2), (2, 0), ((2,),), [(2,)],
        ]:
            self.refused("some", claim, [("term", term)], 0)
            self.refused("some", claim, [("term", (2,)), ("term", term)], 1)

    def test_terms_of_a_claim_without_rows(self):
        claim = (("some",), ())
        self.makes("some", claim, [("term", ()), ("term", (1,)), ("term", (-1,))], [(), (1,), (-1,)])
        for thing in THINGS:
            if thing not in [(), (1,), (-1,)] or type(thing) is not tuple:
                self.refused("some", claim, [("term", thing)], 0)
        for term in [(True,), (False,), (0,), (2,), (1, 1), (-1, 1)]:
            self.refused("some", claim, [("term", term)], 0)
        # A truth is as great as 1, but no literal.
        self.refused("some", (("some",), ((1,),)), [("term", (True,))], 0)

    def test_the_empty_row_has_no_literal_of_a_term(self):
        for term in rows_over(2):
            self.refused("some", (("some", "all"), ((),)), [("term", term)], 0)

    def test_terms_of_many_rows(self):
        claim = (("some",) * 8, tuple((k, 8) for k in range(1, 8)) * 142)
        self.makes("some", claim, [("term", (8,)), ("term", tuple(range(1, 8)))], [(8,), tuple(range(1, 8))])
        self.refused("some", claim, [("term", (1, 2, 3, 4, 5, 6))], 0)

    def test_less_of_all_rows(self):
        for kinds in itertools.product(SIDES, repeat=4):
            rows = rows_over(4)
            steps = [("row", k) for k in range(len(rows))] + [("less", k) for k in range(len(rows))]
            self.makes("all", (kinds, tuple(rows)), steps, rows + [lessened(kinds, "all", row) for row in rows])
            steps = [("term", row) for row in rows] + [("less", k) for k in range(len(rows))]
            self.makes("some", (kinds, ()), steps, rows + [lessened(kinds, "some", row) for row in rows])

    def test_less_by_hand(self):
        kinds = ("all", "some", "all", "some", "all", "all")
        for row, less in [
            ((1, 2, 3, 4, 5, 6), (1, 2, 3, 4)), ((-1, 3, -5, 6), ()), ((1, -4), (1, -4)), ((1, -2, 3, -6), (1, -2)),
            ((), ()), ((5,), ()), ((2,), (2,)), ((-1, -3, 4, -5), (-1, -3, 4)),
        ]:
            self.makes("all", (kinds, (row,)), [("row", 0), ("less", 0)], [row, less])
            turned = tuple(other(kind) for kind in kinds)
            self.makes("some", (turned, ()), [("term", row), ("less", 0)], [row, less])
        # The other side's literals stay, the last ones too.
        self.makes("all", (("some", "some"), ((1, 2),)), [("row", 0), ("less", 0)], [(1, 2), (1, 2)])
        self.makes("some", (("all", "all"), ()), [("term", (1, 2)), ("less", 0)], [(1, 2), (1, 2)])

    def test_less_of_less_and_of_joined(self):
        claim = (("all", "some", "all"), ((1, 2, 3), (1, -2)))
        steps = [("row", 0), ("row", 1), ("joined", 0, 1, 2), ("less", 2), ("less", 3), ("less", 0), ("less", 5)]
        self.makes("all", claim, steps, [(1, 2, 3), (1, -2), (1, 3), (), (), (1, 2), (1, 2)])
        steps = [("term", (1, 2, 3)), ("term", (1, -2)), ("joined", 0, 1, 2), ("less", 2), ("less", 0)]
        self.makes("some", (("some", "all", "some"), ()), steps, [(1, 2, 3), (1, -2), (1, 3), (), (1, 2)])

    def test_joined_of_all_pairs_of_rows(self):
        rows = rows_over(3)
        for kinds in itertools.product(SIDES, repeat=3):
            for side in SIDES:
                claim = (kinds, tuple(rows) if side == "all" else ())
                ahead = [("row", k) if side == "all" else ("term", rows[k]) for k in range(len(rows))]
                for i, j in itertools.product(range(0, len(rows), 2), range(len(rows))):
                    for name in (1, 2, 3):
                        row = joined(rows[i], rows[j], name) if kinds[name - 1] != side else None
                        steps = ahead + [("joined", i, j, name)]
                        if row is None:
                            self.refused(side, claim, steps, len(rows))
                        else:
                            self.makes(side, claim, steps, rows + [row])

    def test_joined_by_hand(self):
        for side in SIDES:
            kinds = (other(side), side, other(side), side)
            rows = [(1, 2, 4), (-1, 2, 3), (-1, -2), (-1, -3), (1, 3), (-1,), (1,), (1, 3, 4), (-3, -4)]
            claim = (kinds, tuple(rows) if side == "all" else ())
            ahead = [("row", k) if side == "all" else ("term", row) for k, row in enumerate(rows)]
            for i, j, name, row in [
                (0, 1, 1, (2, 3, 4)), (0, 3, 1, (2, -3, 4)), (6, 5, 1, ()), (0, 5, 1, (2, 4)), (4, 5, 1, (3,)),
                (1, 3, 3, (-1, 2)), (7, 1, 1, (2, 3, 4)), (4, 1, 1, (2, 3)),
            ]:
                self.makes(side, claim, ahead + [("joined", i, j, name)], rows + [row])
                # The first row has the name, the second its opposite; not the other way round.
                self.refused(side, claim, ahead + [("joined", j, i, name)], len(rows))
            for i, j, name in [
                (0, 2, 1), (2, 0, 1), (4, 3, 1), (4, 3, 3), (7, 8, 3), (0, 2, 2), (7, 8, 4), (0, 0, 1), (0, 7, 1),
                (1, 2, 1), (0, 1, 3), (8, 7, 3),
            ]:
                self.refused(side, claim, ahead + [("joined", i, j, name)], len(rows))

    def test_a_joined_name_that_is_none(self):
        for side in SIDES:
            kinds = (other(side), side)
            claim = (kinds, ((1, 2), (-1, 2), (1, -2)) if side == "all" else ())
            ahead = [(WORD[side], k if side == "all" else row) for k, row in enumerate([(1, 2), (-1, 2), (1, -2)])]
            rows = [(1, 2), (-1, 2), (1, -2)]
            self.makes(side, claim, ahead + [("joined", 0, 1, 1)], rows + [(2,)])
            self.refused(side, claim, ahead + [("joined", 0, 2, 2)], 3)
            self.refused(side, claim, ahead + [("joined", 2, 0, 2)], 3)
            for name in [0, 2, -1, -2, 3, 8, 9] + NO_NUMBERS:
                self.refused(side, claim, ahead + [("joined", 0, 1, name), ("joined", 0, 1, 1)], 3)
                self.refused(side, claim, ahead + [("joined", 1, 0, name)], 3)

    def test_numbers_that_are_no_earlier_step_s(self):
        for side in SIDES:
            kinds = (other(side), side)
            rows = [(1, 2), (-1, 2), (1,), (-1,)]
            claim = (kinds, tuple(rows) if side == "all" else ())
            ahead = [("row", k) if side == "all" else ("term", row) for k, row in enumerate(rows)]
            for number in [4, 5, 6, 7, 700, -3, -4] + NO_NUMBERS:
                self.refused(side, claim, ahead + [("less", number), ahead[0], ahead[1], ahead[2]], 4)
                self.refused(side, claim, ahead + [("joined", number, 1, 1), ahead[0], ahead[0]], 4)
                self.refused(side, claim, ahead + [("joined", 0, number, 1), ahead[1], ahead[1]], 4)
                self.refused(side, claim, ahead + [("joined", number, number, 1)], 4)
            for number in range(4):
                self.makes(side, claim, ahead + [("less", number)], rows + [lessened(kinds, side, rows[number])])
            self.refused(side, claim, [("less", 0)], 0)
            self.refused(side, claim, [("less", 1), ahead[0]], 0)
            self.refused(side, claim, [("joined", 0, 0, 1)], 0)

    def test_a_part_more_or_fewer_or_other(self):
        for side in SIDES:
            kinds = (other(side), side)
            rows = [(1, 2), (-1, 2)]
            claim = (kinds, tuple(rows) if side == "all" else ())
            ahead = [("row", k) if side == "all" else ("term", row) for k, row in enumerate(rows)]
            first = ahead[0]
            self.makes(side, claim, ahead + [("joined", 0, 1, 1), ("less", 2), first], rows + [(2,), (), (1, 2)])
            for step in [
                (), (WORD[side],), first + (0,), first + (None,), first + ((),), ("less",), ("less", 0, 0),
                ("less", 0, 1, 1), ("joined",), ("joined", 0), ("joined", 0, 1), ("joined", 0, 1, 1, 1),
                ("joined", 0, 1, 1, None),
                list(first), ["less", 0], ["joined", 0, 1, 1], [first], (first,), [("less", 0)], (("less", 0),),
                "less 0", "less", "joined", WORD[side], ("Less", 0), ("less ", 0), ("JOINED", 0, 1, 1),
                ("join", 0, 1, 1),
                ("rows", 0), ("", 0), ("", (1, 2)), (None, 0), (0, 0), (True, 0), (("less",), 0), (["less"], 0),
                (first[0] + "s", first[1]), (first[1], first[0]), (0, "less"), ("joined", 1, 0, 1), ("kept",),
                ("lost", 0),
                (WORD[other(side)], 0), (WORD[other(side)], (1, 2)), (WORD[other(side)], ()),
                (WORD[side], "0"), (WORD[side], [0]), (WORD[side], [1, 2]), (WORD[side], None), (WORD[side], (0,)),
            ]:
                self.refused(side, claim, [step], 0)
                self.refused(side, claim, ahead + [step], 2)
                self.refused(side, claim, ahead + [step] + ahead, 2)
                self.refused(side, claim, ahead + [step, step, ("less", 9)], 2)

    def test_the_other_kind_s_first_step(self):
        self.refused("all", (("some",), ()), [("term", ())], 0)
        self.refused("some", (("some",), ((),)), [("row", 0)], 0)

    def test_steps_of_all_other_things(self):
        claims = [((), ()), ((), ((),)), (("some",), ((1,),)), (("all",), ()), WIDE["all"], WIDE["some"]]
        for side, claim in itertools.product(SIDES, claims):
            ahead = first_steps(claim, side)[:3]
            for thing in THINGS:
                self.refused(side, claim, [thing], 0)
                self.refused(side, claim, ahead + [thing] + ahead, len(ahead))
                self.refused(side, claim, ahead + [(WORD[side], thing, thing)], len(ahead))
                self.refused(side, claim, ahead + [(thing, 0)], len(ahead))
                self.refused(side, claim, ahead + [("joined", thing, thing, thing)], len(ahead))

    def test_things_as_numbers(self):
        for side in SIDES:
            claim = WIDE[side]
            ahead = first_steps(claim, side)[:2]
            for thing in THINGS:
                # Of these 0 and 1 alone are numbers of a step ahead, 2 alone is a name that joins.
                if type(thing) is not int or thing not in (0, 1):
                    self.refused(side, claim, ahead + [("less", thing)], 2)
                    self.refused(side, claim, ahead + [("joined", thing, 1, 2)], 2)
                    self.refused(side, claim, ahead + [("joined", 0, thing, 2)], 2)
                if thing != 2:
                    self.refused(side, claim, ahead + [("joined", 0, 1, thing)], 2)

    def test_steps_by_chance(self):
        chance = random.Random(52)
        for claim in chance_claims(53, 150, 4, 6) + [WIDE["all"], WIDE["some"]]:
            for side in SIDES:
                steps = chance_steps(chance, claim, side, 30)
                self.makes(side, claim, steps, made(claim, side, steps))

    def test_one_step_spoilt(self):
        chance = random.Random(54)
        for claim in chance_claims(55, 60, 4, 6):
            for side in SIDES:
                steps = chance_steps(chance, claim, side, 12)
                for number in range(len(steps)):
                    for step in [None, ("less", number), ("less", -1), ("joined", 0, 0, 1), (steps[number],)]:
                        self.refused(side, claim, steps[:number] + [step] + steps[number + 1:], number)

    def test_seven_hundred_steps(self):
        chance = random.Random(56)
        for claim in [WIDE["all"], WIDE["some"]] + [some_claim(chance, 5, 6) for _ in range(4)]:
            for side in SIDES:
                part = chance_steps(chance, claim, side, 70)
                if part:
                    steps = [step for number in range(10) for step in moved_on(part, 70 * number)]
                    self.assertEqual(len(steps), 700)
                    self.makes(side, claim, steps, made(claim, side, steps))
                    self.refused(side, claim, steps[:699] + [("less", 699)], 699)
                    self.refused(side, claim, [("less", 1)] + steps[1:], 0)
                    self.makes(side, claim, steps + steps[:1], made(claim, side, steps + steps[:1]))

    def test_the_winner_stays_with_a_made_row(self):
        chance = random.Random(57)
        for claim in chance_claims(58, 150, 4, 6):
            who = winners(claim)[()]
            for row in rows_of(claim, chance_steps(chance, claim, "all", 25)):
                place = chance.randint(0, len(claim[1]))
                more = (claim[0], claim[1][:place] + (row,) + claim[1][place:])
                self.assertEqual(winner(more, ()), who, (claim, row))
            for term in terms_of(claim, chance_steps(chance, claim, "some", 25)):
                self.assertEqual(winners(claim, [term])[()], who, (claim, term))


class PapersTest(unittest.TestCase):
    """Papers told, and looked over."""

    def check(self, claim, who):
        self.assertEqual(winner(claim, ()), who)
        steps = PAPER[who](claim)
        self.assertIs(type(steps), list)
        self.assertLessEqual(len(steps), 600)
        rows = made(claim, who, steps)
        self.assertEqual(len(rows), len(steps), claim)
        self.assertEqual(rows[-1], (), claim)
        self.assertEqual(MADE_OF[who](claim, steps), rows)
        self.assertIs(IS_PAPER[who](claim, steps), True)
        self.assertIs(IS_PAPER[other(who)](claim, steps), False)
        for side in SIDES:
            self.assertIs(IS_PAPER[side](claim, tuple(steps)), False)
        with self.assertRaises(NotWon) as caught:
            PAPER[other(who)](claim)
        self.assertIsInstance(caught.exception, ClaimError)
        return steps

    def test_all_tiny_claims(self):
        for claim in tiny_claims(3):
            self.check(claim, winners(claim)[()])

    def test_claims_by_chance(self):
        for claim in chance_claims(61, 400, 6, 12):
            self.check(claim, winners(claim)[()])

    def test_great_claims(self):
        won = {}
        for claim in great_claims(62):
            who = winners(claim)[()]
            won[who] = True
            self.check(claim, who)
        self.assertEqual(set(won), set(SIDES))

    def test_claims_that_need_many_steps(self):
        longest = {"all": 0, "some": 0}
        for claim in late_claims():
            who = winner(claim, ())
            longest[who] = max(longest[who], len(self.check(claim, who)))
        self.assertGreater(min(longest.values()), 300)

    def test_edges(self):
        for many in range(9):
            for kind in SIDES:
                kinds = (kind,) * many
                self.check((kinds, ()), "some")
                self.check((kinds, ((),)), "all")
                self.check((kinds, ((1,)[:many], ()) * 10), "all")
                if many:
                    self.check((kinds, ((many,),)), kind)
                    self.check((kinds, ((many,), (-many,))), "all")
                    self.check((kinds, (tuple(range(1, many + 1)),)), kind)

    def test_all_kinds_of_a_few_names(self):
        chance = random.Random(63)
        for many in range(6):
            for kinds in itertools.product(SIDES, repeat=many):
                for _ in range(6):
                    claim = (kinds, some_claim(chance, many, chance.randint(1, 2 * many + 1))[1])
                    self.check(claim, winners(claim)[()])

    def test_what_can_be_made_tells_who_wins(self):
        for claim in tiny_claims(3)[::2] + chance_claims(64, 120, 3, 5):
            for side in SIDES:
                steps = first_steps(claim, side)
                rows = MADE_OF[side](claim, steps)
                number = 0
                while number < len(rows):
                    tried = [("less", number)]
                    for earlier, name in itertools.product(range(number), range(1, len(claim[0]) + 1)):
                        tried += [("joined", number, earlier, name), ("joined", earlier, number, name)]
                    for step in tried:
                        try:
                            row = MADE_OF[side](claim, steps + [step])[-1]
                        except NoStep:
                            continue
                        if row not in rows:
                            steps.append(step)
                            rows.append(row)
                    number += 1
                self.assertEqual(() in rows, winner(claim, ()) == side, (claim, side))


class IsPaperTest(unittest.TestCase):
    def check(self, side, claim, thing, answer):
        self.assertIs(IS_PAPER[side](claim, thing), answer, (side, claim, repr(thing)[:200]))

    def claims(self, seed):
        return [(claim, winner(claim, ())) for claim in chance_claims(seed, 120, 5, 8)]

    def test_the_empty_list(self):
        for side in SIDES:
            for claim in [((), ()), ((), ((),)), (("some",), ((1,), (-1,))), WIDE[side]]:
                self.check(side, claim, [], False)

    def test_other_steps_ahead(self):
        chance = random.Random(71)
        for claim, who in self.claims(72):
            ahead = chance_steps(chance, claim, who, 10)
            steps = PAPER[who](claim)
            self.check(who, claim, ahead + moved_on(steps, len(ahead)), True)
            self.check(who, claim, ahead + steps, made(claim, who, ahead + steps)[len(ahead) + len(steps) - 1:] == [()])

    def test_steps_behind(self):
        for claim, who in self.claims(73):
            steps = PAPER[who](claim)
            last = len(steps) - 1
            self.check(who, claim, steps + [("less", last)], True)
            for step, row in zip(steps, made(claim, who, steps)):
                self.check(who, claim, steps + [step], row == ())
            for step in first_steps(claim, who)[:20]:
                row = claim[1][step[1]] if who == "all" else step[1]
                self.check(who, claim, steps + [step], row == ())
                self.check(who, claim, steps + [step, ("less", last)], True)

    def test_shorter_ones(self):
        for claim, who in self.claims(74):
            steps = PAPER[who](claim)
            rows = made(claim, who, steps)
            for many in range(len(steps)):
                self.check(who, claim, steps[:many], many > 0 and rows[many - 1] == ())

    def test_one_step_spoilt(self):
        for claim, who in self.claims(75):
            steps = PAPER[who](claim)
            for number in range(len(steps)):
                for step in [None, (), ("less", number), ("row", True), ("term", [1]), list(steps[number]), steps]:
                    self.check(who, claim, steps[:number] + [step] + steps[number + 1:], False)

    def test_steps_exchanged(self):
        chance = random.Random(76)
        for claim, who in self.claims(77):
            steps = PAPER[who](claim)
            for _ in range(10):
                mixed = list(steps)
                i, j = chance.randrange(len(steps)), chance.randrange(len(steps))
                mixed[i], mixed[j] = mixed[j], mixed[i]
                told = True
                for number, step in enumerate(mixed):
                    earlier = step[1:3] if step[0] == "joined" else step[1:] if step[0] == "less" else ()
                    told = told and all(k < number for k in earlier)
                told = told and made(claim, who, mixed)[len(steps) - 1:] == [()]
                self.check(who, claim, mixed, told)

    def test_papers_of_other_claims(self):
        claims = self.claims(78)
        for (claim, who), (another, side) in zip(claims, claims[1:]):
            if winner(another, ()) != who:
                self.check(who, another, PAPER[who](claim), False)

    def test_never_both(self):
        chance = random.Random(79)
        for claim, who in self.claims(80):
            for _ in range(5):
                self.check(other(who), claim, chance_steps(chance, claim, other(who), 20), False)

    def test_in_the_place_of_lists_and_tuples(self):
        for side, claim in [("all", ((), ((),))), ("some", ((), ()))]:
            step = ("row", 0) if side == "all" else ("term", ())
            self.check(side, claim, [step], True)
            self.check(side, claim, [step, step], True)
            for thing in [step, (step,), [list(step)], [[step]], ([step],), {0: step}, "row 0", [step, []], [step[0]]]:
                self.check(side, claim, thing, False)

    def test_truths_are_no_numbers(self):
        self.check("all", ((), ((), ())), [("row", 1)], True)
        self.check("all", ((), ((), ())), [("row", True)], False)
        self.check("all", ((), ((), ())), [("row", False)], False)
        self.check("all", ((), ((), ())), [("row", 0), ("less", False)], False)
        claim = (("some",), ((1,), (-1,)))
        ahead = [("row", 0), ("row", 1)]
        self.check("all", claim, ahead + [("joined", 0, 1, 1)], True)
        for step in [("joined", False, 1, 1), ("joined", 0, True, 1), ("joined", 0, 1, True)]:
            self.check("all", claim, ahead + [step], False)
        self.check("some", (("some",), ()), [("term", (1,)), ("less", 0)], True)
        self.check("some", (("some",), ()), [("term", (True,)), ("less", 0)], False)
        self.check("some", (("some",), ()), [("term", (1,)), ("less", False)], False)

    def test_seven_hundred_steps(self):
        for claim, who in self.claims(81) + [(claim, winner(claim, ())) for claim in great_claims(82)]:
            steps = PAPER[who](claim)
            first = steps[0]
            ahead = [first] * (700 - len(steps))
            self.check(who, claim, ahead + moved_on(steps, len(ahead)), True)
            self.check(who, claim, steps + [("less", len(steps) - 1)] * len(ahead), True)
            self.check(who, claim, ahead + moved_on(steps, len(ahead))[:-1] + [("less", 699)], False)
            self.check(who, claim, [first] + ahead + moved_on(steps, len(ahead) + 1), True)

    def test_other_things(self):
        claims = [((), ()), ((), ((),)), (("some",), ()), (("all",), ((1,),)), WIDE["all"], WIDE["some"]]
        for thing in THINGS:
            for side, claim in itertools.product(SIDES, claims):
                self.check(side, claim, thing, False)
                self.check(side, claim, [thing], False)
                self.check(side, claim, (thing,), False)

    def test_steps_that_are_needed_by_no_other(self):
        claim = (("some",), ((1,), (-1,)))
        self.check("all", claim, [("row", 0), ("row", 0), ("row", 1), ("less", 1), ("joined", 1, 2, 1)], True)
        self.check("all", claim, [("row", 0), ("row", 0), ("row", 1), ("joined", 1, 2, 1), ("row", 0)], False)
        claim = (("all",), ())
        ahead = [("term", (1,)), ("term", (-1,)), ("less", 0)]
        self.check("some", claim, ahead + [("joined", 2, 1, 1)], True)
        self.check("some", claim, ahead + [("joined", 1, 2, 1)], False)
        self.check("some", claim, ahead, False)


if __name__ == "__main__":
    unittest.main()
