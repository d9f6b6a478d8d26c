"""[3], [20]: what is told of pairs claims, looked over."""

import itertools
import random
import unittest

from allsome.looker import is_told
from allsome.pairs import told_pairs
from tests.helper import (
    SIDES, THINGS, along, chance_pairs, is_right_rule, is_right_told, kept_pairs, long_roads, rows_over, winner_of,
)

TURN = (("some", "some"), ((1, 2), (1, -2), (-1, 2), (-1, -2)))
TURN_TOLD = ("turn", [1, 2, -1], [-1, 2, 1])
EARLY = (("some", "all", "some"), ((-2, 3), (1, -3), (-1, 2)))
EARLY_TOLD = ("early", [2, 3, 1], [1, 2])
MEET = (("all", "all", "some"), ((-1, 3), (2, -3)))
MEET_TOLD = ("meet", [1, 3, 2])
EMPTY = (("some",), ((1,), (), (-1,), ()))
EMPTY_TOLD = ("empty", 1)
RULE = (("all", "some", "all", "some", "some"), ((1, -2), (-1, 2), (3, 4), (-3, -4), (4, 5)))
RULE_TOLD = (None, 1, None, -3, True)
OF_ALL = [(EMPTY, EMPTY_TOLD), (TURN, TURN_TOLD), (EARLY, EARLY_TOLD), (MEET, MEET_TOLD)]


def exchanged(told, k, part):
    """What is told with part k exchanged."""
    return told[:k] + (part,) + told[k + 1:]


class Looked(unittest.TestCase):
    def check(self, claim, thing, answer):
        self.assertIs(is_told(claim, thing), answer, str((claim, thing))[:1000])


class RightOnesTest(Looked):
    def test_what_told_pairs_tells(self):
        chance = random.Random(241)
        for _ in range(1500):
            claim = chance_pairs(chance, 7, 12, chance.choice((0.2, 0.5)))
            told = told_pairs(claim)
            self.check(claim, told, True)
            self.check(claim, ("some" if told[0] == "all" else "all", told[1]), False)

    def test_great_claims(self):
        chance = random.Random(242)
        for share in (0.05, 0.2, 0.5):
            claim, rule = kept_pairs(chance, 200, 600, share)
            self.check(claim, told_pairs(claim), True)
            self.check(claim, ("some", rule), True)
        for many in (3, 4, 199, 200):
            for claim, word in long_roads(many):
                self.check(claim, told_pairs(claim), True)

    def test_by_hand(self):
        for claim, told in OF_ALL:
            self.check(claim, ("all", told), True)
            self.check(claim, ("some", told), False)
            self.assertTrue(is_right_told(claim, ("all", told)))
            for other, others in OF_ALL:
                if other != claim:
                    self.check(other, ("all", told), False)
        self.check(RULE, ("some", RULE_TOLD), True)
        self.check(RULE, ("all", RULE_TOLD), False)
        self.check(((), ()), ("some", ()), True)
        self.check(((), ()), ("all", ()), False)
        self.check(((), ((),)), ("some", ()), False)


class RulesTest(Looked):
    def test_all_rules_of_small_claims(self):
        parts = (None, False, True, 1, -1, 2, -2, 3, -3, 0, 4)
        chance = random.Random(243)
        rules = list(itertools.product(parts, repeat=3))
        right = 0
        for kinds in itertools.product(SIDES, repeat=3):
            for count in (0, 1, 1, 2, 2, 3):
                rows = [chance.choice([row for row in rows_over(3) if 0 < len(row) <= 2]) for _ in range(count)]
                claim = (kinds, tuple(rows))
                for rule in rules:
                    answer = is_right_rule(claim, rule)
                    self.check(claim, ("some", rule), answer)
                    right += answer
                    self.assertFalse(answer and winner_of(claim) == "all")
        self.assertGreater(right, 50)

    def test_other_right_rules(self):
        self.check(RULE, ("some", (None, 1, None, -3, 3)), True)
        self.check(RULE, ("some", (None, 1, None, -3, -3)), False)
        self.check(RULE, ("some", (None, 1, None, -3, 1)), False)
        self.check(RULE, ("some", (None, 1, None, -3, False)), False)

    def test_a_part_exchanged(self):
        for k, part in enumerate(RULE_TOLD):
            for other in [None, True, False, 1, -1, 2, -2, 3, -3, 4, 5, 6, -6, 0, "1", "", (1,), [1], (), [],
                          10 ** 29, -(10 ** 29)]:
                rule = exchanged(RULE_TOLD, k, other)
                same = other is part or (type(other), type(part), other) == (int, int, part)
                self.check(RULE, ("some", rule), same or (k, other) == (4, 3))

    def test_truths_are_no_literals(self):
        # Name 1 is All's, so literal 1 would do for name 2, where True doesn't.
        self.check((("all", "some"), ((1, -2), (-1, 2))), ("some", (None, 1)), True)
        self.check((("all", "some"), ((1, -2), (-1, 2))), ("some", (None, True)), False)
        # And where True does, 1 doesn't.
        self.check((("all", "some"), ((2,),)), ("some", (None, True)), True)
        self.check((("all", "some"), ((2,),)), ("some", (None, 1)), False)
        self.check((("all", "some"), ((-2,),)), ("some", (None, False)), True)
        self.check((("all", "some"), ((-2,),)), ("some", (None, 0)), False)
        self.check((("some",), ()), ("some", (True,)), True)
        for part in (1, 0, -1, None):
            self.check((("some",), ()), ("some", (part,)), False)
        for part in (True, False, 1, 0):
            self.check((("all",), ()), ("some", (part,)), False)

    def test_names_that_are_not_ahead_or_are_some_s(self):
        claim = (("all", "some", "some", "all"), ())
        for k in (1, 2):
            for part in (1, -1, True, False):
                self.check(claim, ("some", exchanged((None, True, True, None), k, part)), True)
            for part in (2, -2, 3, -3, 4, -4, 5, -5, 0, None):
                self.check(claim, ("some", exchanged((None, True, True, None), k, part)), False)

    def test_too_short_or_too_long(self):
        for rule in [RULE_TOLD[:-1], RULE_TOLD[1:], RULE_TOLD + (True,), RULE_TOLD + (None,), (), RULE_TOLD * 2]:
            self.check(RULE, ("some", rule), False)
        self.check(((), ()), ("some", (None,)), False)
        self.check((("all",) * 200, ()), ("some", (None,) * 200), True)
        for many in (0, 1, 199, 201, 6000):
            self.check((("all",) * 200, ()), ("some", (None,) * many), False)

    def test_rows_that_are_not_kept(self):
        claim, rule = kept_pairs(random.Random(244), 200, 599, 0.3)
        self.check(claim, ("some", rule), True)
        chance = random.Random(245)
        seen = {True: 0, False: 0}
        for _ in range(60):
            row = tuple(k * chance.choice((1, -1)) for k in sorted(chance.sample(range(1, 201), chance.choice((1, 2)))))
            more = (claim[0], (row,) + claim[1])
            answer = is_right_rule(more, rule)
            self.check(more, ("some", rule), answer)
            seen[answer] += 1
        self.assertGreater(min(seen.values()), 5)
        self.check((claim[0], claim[1] + ((),)), ("some", rule), False)

    def test_two_names_by_opposite_literals(self):
        kinds = ("all", "some", "some")
        self.check((kinds, ((2, 3),)), ("some", (None, 1, -1)), True)
        self.check((kinds, ((2, 3),)), ("some", (None, 1, 1)), False)
        self.check((kinds, ((2, -3),)), ("some", (None, 1, 1)), True)
        self.check((kinds, ((-2, 3),)), ("some", (None, -1, -1)), True)
        self.check((kinds, ((-2, -3),)), ("some", (None, -1, 1)), True)
        self.check((kinds, ((2,),)), ("some", (None, 1, 1)), False)
        self.check((kinds, ((1, 2),)), ("some", (None, -1, True)), True)
        self.check((kinds, ((1, 2),)), ("some", (None, 1, True)), False)


class RoadsTest(Looked):
    def test_all_short_roads_of_small_claims(self):
        chance = random.Random(246)
        literals = [1, -1, 2, -2, 3, -3]
        roads = [list(road) for size in (1, 2, 3) for road in itertools.product(literals, repeat=size)]
        right = 0
        for kinds in itertools.product(SIDES, repeat=3):
            rows = tuple(chance.choice([row for row in rows_over(3) if 0 < len(row) <= 2]) for _ in range(4))
            claim = (kinds, rows)
            for there in roads:
                meets = is_right_told(claim, ("all", ("meet", there)))
                self.check(claim, ("all", ("meet", there)), meets)
                right += meets
                for back in roads[::5]:
                    for word in ("turn", "early"):
                        answer = is_right_told(claim, ("all", (word, there, back)))
                        self.check(claim, ("all", (word, there, back)), answer)
                        right += answer
        self.assertGreater(right, 10)

    def test_other_right_roads(self):
        self.check(TURN, ("all", ("turn", [1, -2, -1], [-1, -2, 1])), True)
        self.check(TURN, ("all", ("turn", [-1, 2, 1], [1, 2, -1])), True)
        self.check(TURN, ("all", ("turn", [2, 1, -2], [-2, 1, 2])), True)
        self.check(EARLY, ("all", ("early", [2, 3, 1, 2, 3, 1], [1, 2, 3, 1, 2])), True)
        # The opposite of a road, walked back, is a road, too.
        self.check(EARLY, ("all", ("early", [-2, -1], [-1, -3, -2])), True)
        self.check(MEET, ("all", ("meet", [-2, -3, -1])), True)
        self.check(EMPTY, ("all", ("empty", 3)), True)

    def test_roads_that_come_by_a_literal_twice(self):
        self.check(TURN, ("all", ("turn", [1, 2, 1, 2, -1], [-1, 2, 1])), True)
        self.check(TURN, ("all", ("turn", [1, 2, -1, 2, -1], [-1, -2, -1, 2, 1])), True)
        self.check(TURN, ("all", ("turn", [1] + [2, -1, -2, 1] * 700 + [2, -1], [-1, 2, 1])), True)
        self.check(TURN, ("all", ("turn", [1] + [2, -1, -2, 1] * 700 + [-1], [-1, 2, 1])), False)
        claim = (("all", "some", "some", "all"), tuple(along([1, 2, 3, 2]) + along([3, 4])))
        self.check(claim, ("all", ("meet", [1, 2, 3, 4])), True)
        self.check(claim, ("all", ("meet", [1, 2, 3, 2, 3, 2, 3, 4])), True)
        self.check(claim, ("all", ("meet", [1, 2, 2, 3, 4])), False)

    def test_a_literal_exchanged_left_out_or_put_to(self):
        for claim, told in OF_ALL[1:]:
            for part in range(1, len(told)):
                for place in range(len(told[part])):
                    self.check_road(claim, told, part, place)

    def check_road(self, claim, told, part, place):
        road = told[part]
        for literal in [1, -1, 2, -2, 3, -3, 4, -4, 0, 200, 201, 10 ** 29, -(10 ** 29), True, False, None, "1", "",
                        (1,), [1], (), []]:
            for other in (road[:place] + [literal] + road[place + 1:], road[:place] + [literal] + road[place:],
                          road + [literal]):
                whole = exchanged(told, part, other)
                good = all(type(k) is int and 1 <= abs(k) <= len(claim[0]) for k in other)
                self.check(claim, ("all", whole), good and is_right_told(claim, ("all", whole)))
        whole = exchanged(told, part, road[:place] + road[place + 1:])
        self.check(claim, ("all", whole), False)

    def test_truths_are_no_literals(self):
        claim = (("all", "all"), ((-1, 2),))
        self.check(claim, ("all", ("meet", [1, 2])), True)
        self.check(claim, ("all", ("meet", [True, 2])), False)
        claim = (("some",), ((1,), (-1,)))
        self.check(claim, ("all", ("turn", [1, -1], [-1, 1])), True)
        self.check(claim, ("all", ("turn", [True, -1], [-1, 1])), False)
        self.check(claim, ("all", ("turn", [1, -1], [-1, True])), False)
        self.check(claim, ("all", ("turn", [True, -1], [-1, True])), False)

    def test_tuples_and_the_empty_road(self):
        for claim, told in OF_ALL[1:]:
            for part in range(1, len(told)):
                for road in [tuple(told[part]), [], (), None, "", told[part][0], [told[part]], told[part][:1]]:
                    self.check(claim, ("all", exchanged(told, part, road)), False)
            self.check(claim, ("all", tuple([told[0]] + [[]] * (len(told) - 1))), False)
        self.check(((), ()), ("all", ("meet", [])), False)
        self.check(((), ()), ("all", ("turn", [], [])), False)

    def test_a_road_of_one_literal_meets_none(self):
        for kind in SIDES:
            claim = ((kind,), ())
            for literal in (1, -1):
                self.check(claim, ("all", ("meet", [literal])), False)
                self.check(claim, ("all", ("turn", [literal], [literal])), False)
                self.check(claim, ("all", ("early", [literal], [literal])), False)

    def test_a_road_from_a_literal_to_itself_meets_none(self):
        claim = (("all", "some"), ((-1, 2), (1, -2)))
        self.check(claim, ("all", ("meet", [1, 2, 1])), False)
        self.check(claim, ("all", ("early", [1, 2], [2, 1])), False)

    def test_a_road_to_the_opposite_meets(self):
        claim = (("all", "some"), ((-1, 2), (-1, -2)))
        self.check(claim, ("all", ("meet", [1, 2, -1])), True)
        self.check(claim, ("all", ("meet", [1, -2, -1])), True)
        self.check(claim, ("all", ("meet", [1, -1])), False)
        self.check((("all",), ((-1,),)), ("all", ("meet", [1, -1])), True)
        self.check((("all",), ((-1,),)), ("all", ("meet", [-1, 1])), False)

    def test_the_sides_of_the_ends(self):
        # The same roads in claims of other kinds.
        for kinds in itertools.product(SIDES, repeat=3):
            claim = (kinds, EARLY[1])
            early = kinds[1] == "all" and kinds[0] == "some"
            self.check(claim, ("all", EARLY_TOLD), early)
            self.check(claim, ("all", ("early", [1, 2], [2, 3, 1])), False)
            self.check(claim, ("all", ("early", [3, 1], [1, 2, 3])), kinds[2] == "all" and kinds[0] == "some")
            self.check(claim, ("all", ("meet", [2, 3, 1])), kinds[1] == kinds[0] == "all")
            self.check(claim, ("all", ("turn", [2, 3, 1], [1, 2])), False)
            claim = (kinds[:1], ((1,), (-1,)))
            self.check(claim, ("all", ("turn", [1, -1], [-1, 1])), kinds[0] == "some")
            self.check(claim, ("all", ("meet", [1, -1])), kinds[0] == "all")

    def test_one_way_alone(self):
        claim = (("some",), ((1,),))
        self.check(claim, ("all", ("turn", [-1, 1], [1, -1])), False)
        self.check(claim, ("all", ("turn", [-1, 1], [-1, 1])), False)
        claim = (("some", "all"), ((1, -2),))
        self.check(claim, ("all", ("early", [2, 1], [1, 2])), False)
        self.check(claim, ("all", ("early", [2, 1], [-1, -2])), False)
        self.check(claim, ("all", ("early", [2, 1], [1])), False)

    def test_roads_beside_an_empty_row(self):
        for claim, told in OF_ALL[1:]:
            self.check((claim[0], ((),) + claim[1] + ((),)), ("all", told), True)
            self.check((claim[0], ((),) + claim[1] + ((),)), ("all", ("empty", 0)), True)

    def test_rows_of_empty(self):
        for number in [0, 2, 4, -1, -3, 10 ** 29, True, False, None, "1", (1,), [1], ()]:
            self.check(EMPTY, ("all", ("empty", number)), False)
        claim = ((), ((), ()))
        for number, answer in ((0, True), (1, True), (False, False), (True, False), (2, False), (-1, False)):
            self.check(claim, ("all", ("empty", number)), answer)


class OtherThingsTest(Looked):
    def test_a_part_more_or_fewer(self):
        for claim, told in [(claim, ("all", why)) for claim, why in OF_ALL] + [(RULE, ("some", RULE_TOLD))]:
            self.check(claim, told, True)
            for thing in [told[:1], told[1:], told + (None,), told + ((),), told + told, told[::-1], list(told), (),
                          told[1], (told,), [told]]:
                self.check(claim, thing, False)
            for why in [told[1][:-1], told[1] + (None,), told[1] + ([],), told[1] + told[1], list(told[1]), ()]:
                self.check(claim, (told[0], why), False)

    def test_another_word(self):
        for word in ["", "All", "all ", "some", "empty", "none", 0, None, True, (), [], ("all",)]:
            for claim, told in OF_ALL:
                self.check(claim, (word, told), False)
        for word in ["", "Some", "all", 0, None, (), []]:
            self.check(RULE, (word, RULE_TOLD), False)
        for claim, told in OF_ALL:
            for word in ["", "empty", "turn", "early", "meet", "Turn", 0, None, (), [], True]:
                self.check(claim, ("all", (word,) + told[1:]), word == told[0])

    def test_things_of_all_kinds(self):
        claims = [((), ()), ((), ((),)), (("some",), ()), (("all",), ((1,),)), TURN, EARLY, MEET, EMPTY, RULE]
        right = [(((), ((),)), 0), (EMPTY, 1)]
        for thing in THINGS:
            for claim in claims:
                self.check(claim, thing, False)
                for side in SIDES:
                    self.check(claim, (side, thing), False)
                for word in ("empty", "turn", "early", "meet"):
                    number = word == "empty" and type(thing) is int and (claim, thing) in right
                    self.check(claim, ("all", (word, thing)), number)
                    self.check(claim, ("all", (word, thing, thing)), False)
            self.check(TURN, ("all", ("turn", thing, TURN_TOLD[2])), False)
            self.check(TURN, ("all", ("turn", TURN_TOLD[1], thing)), False)
            self.check(RULE, ("some", exchanged(RULE_TOLD, 0, thing)), thing is None)
            self.check(RULE, ("some", exchanged(RULE_TOLD, 4, thing)), thing is True)


if __name__ == "__main__":
    unittest.main()
