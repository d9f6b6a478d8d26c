"""[24]: the desk."""

import random
import unittest

from allsome.counted import how_many_plans
from allsome.cores import lean
from allsome.desk import Desk
from allsome.errors import ClaimError, NoBack, NoLine, NoRow, NotWon, TooMany
from allsome.fewest import least_plan
from allsome.games import good_picks, winner
from allsome.moved import earliest
from allsome.plans import is_plan
from allsome.rowpapers import row_paper
from allsome.termpapers import term_paper
from allsome.texts import read_claim, read_tree, show_claim
from tests.helper import TRUTHS, chance_claims, fewest_ends, is_right_plan, plays, rows_over, some_claim, winners

# Rows right by their words for a claim of two names or more, "all some ..".
ASKED = ["row 1 2", "row 0", "out 0", "back", "winner", "winner y", "winner n y", "good", "good n", "good y y", "plan",
         "least", "count", "paper", "lean", "early 1", "early 2", "show"]
# Rows that are none by their words, of a claim of two names.
NO_LINES = [
    "", " ", "  ", "\n", "\t", "x", "Show", "SHOW", "show ", " show", "show\n", "show\t", "show x", "show show", "shows",
    "show  ", "rows", "row", "row ", "row  1", "row 1 ", "row 1  2", "row 1\t2", "row 3", "row -3", "row 1 3", "row 1 1",
    "row 1 -1", "row 2 1", "row 0 1", "row 1 0", "row 0 0", "row 00", "row -0", "row +1", "row 01", "row x", "row -",
    "row 1,2", "row (1, 2)", "row --1", "row 1-", "row 1\n", "row 0\n", "row " + "9" * 5000, "row 1 2 3", "row y",
    "out", "out ", "out x", "out -1", "out 00", "out 01", "out 10000", "out 99999", "out 0 0", "out  0", "out 0 ",
    "out 0\n", "out +0", "out 1.", "out -0", "out " + "1" * 5000, "out 1e1", "out y",
    "back ", "back 1", "back x", "backs", "back\n", "back back", "back 0",
    "winner ", "winner  y", "winner y ", "winner yn", "winner Y", "winner yes", "winner y n y", "winner y,n", "winner 1",
    "winner True", "winner\ty", "winner y\n", "winner -", "winner y  n", "winner n n n n",
    "good ", "good  y", "good y ", "good yn", "good N", "good no", "good y n y", "good 0", "good -", "good\n",
    "plan ", "plan x", "plan y", "plans", "plan 0", "least ", "least 1", "count ", "count some", "paper ", "paper all",
    "lean ", "lean 0", "early", "early ", "early x", "early 0", "early 3", "early 9", "early 9999", "early 10000",
    "early 00001", "early 01", "early -1", "early +1", "early 1 1", "early  1", "early 1 ", "early 1\n", "early y",
    "kind all", "Kinds all", " kinds all", "ok", "all", "some", "all some", "+", "-", "claim", "put 1", "who", "left",
]
NO_KINDS = [
    "kinds", "kinds ", "kinds  ", "kinds x", "kinds All", "kinds all ", "kinds  all", "kinds all  some", "kinds all\n",
    "kinds all\tsome", "kinds - -", "kinds - all", "kinds all -", "kinds --", "kinds -\n", "kinds 0", "kinds all,some",
    "kinds " + " ".join(["all"] * 9), "kinds " + " ".join(["some"] * 10), "kinds all some x", "kinds allsome",
    "kinds " + " ".join(["all"] * 1000),
]


def in_words(play):
    """A play's picks, each as a word with a blank ahead."""
    return "".join(" y" if truth else " n" for truth in play)


def desk_of(claim):
    """A desk that was told a claim."""
    desk = Desk()
    desk.say("kinds " + (" ".join(claim[0]) or "-"))
    for row in claim[1]:
        desk.say("row " + (" ".join(map(str, row)) or "0"))
    return desk


class DeskCase(unittest.TestCase):
    def refused(self, error, desk, row):
        """A row is refused, and changes nothing."""
        before = desk.say("show") if self.stands(desk) else None
        with self.assertRaises(error, msg=repr(row)[:200]) as caught:
            desk.say(row)
        self.assertIs(type(caught.exception), error, repr(row)[:200])
        self.assertIsInstance(caught.exception, ClaimError)
        if before is not None:
            self.assertEqual(desk.say("show"), before)

    def stands(self, desk):
        try:
            desk.say("show")
        except NoLine:
            return False
        return True

    def answered(self, desk, row, answer):
        told = desk.say(row)
        self.assertIs(type(told), str)
        self.assertEqual(told, answer, repr(row))


class AnswersTest(DeskCase):
    def check(self, desk, claim):
        """All that a desk answers of its claim."""
        table = winners(claim)
        side = table[()]
        self.answered(desk, "show", show_claim(claim))
        self.assertEqual(read_claim(desk.say("show")), claim)
        for play in plays(len(claim[0])):
            self.check_play(desk, claim, table, play)
        word, tree = desk.say("plan").split(" ")
        self.assertEqual(word, side)
        self.assertIs(is_plan(claim, side, read_tree(tree)), True)
        self.assertTrue(is_right_plan(claim, side, read_tree(tree)))
        self.answered(desk, "least", str(fewest_ends(claim)[1]))
        self.answered(desk, "least", str(least_plan(claim)[1]))
        self.answered(desk, "count", str(how_many_plans(claim, side)))
        paper = row_paper(claim) if side == "all" else term_paper(claim)
        self.answered(desk, "paper", f"{side} {len(paper)}")
        self.check_lean(desk, claim, side)
        self.check_early(desk, claim, side)
        self.answered(desk, "show", show_claim(claim))

    def check_play(self, desk, claim, table, play):
        self.answered(desk, "winner" + in_words(play), table[play])
        good = []
        if len(play) < len(claim[0]):
            good = [truth for truth in TRUTHS if table[play + (truth,)] == claim[0][len(play)]]
        self.assertEqual(good, good_picks(claim, play))
        self.answered(desk, "good" + in_words(play), {(): "-", (False,): "n", (True,): "y"}.get(tuple(good), "n y"))

    def check_lean(self, desk, claim, side):
        if side == "all":
            self.answered(desk, "lean", " ".join(str(number) for number in lean(claim)))
        else:
            self.refused(NotWon, desk, "lean")

    def check_early(self, desk, claim, side):
        for k, kind in enumerate(claim[0], start=1):
            if kind == side:
                self.answered(desk, f"early {k}", str(earliest(claim, k)))
            else:
                self.refused(NotWon, desk, f"early {k}")
        for k in (0, len(claim[0]) + 1, 10, 9999):
            self.refused(NoLine, desk, f"early {k}")

    def test_claims_by_chance(self):
        for claim in chance_claims(281, 120, 4, 8):
            self.check(desk_of(claim), claim)

    def test_greater_claims(self):
        chance = random.Random(282)
        for many, count in ((6, 12), (8, 20), (8, 4)):
            claim = some_claim(chance, many, count)
            self.check(desk_of(claim), claim)

    def test_edges(self):
        for claim in [((), ()), ((), ((),)), (("all",), ()), (("some",), ((1,), (-1,))), (("all",), ((1,),) * 20)]:
            self.check(desk_of(claim), claim)

    def test_one_desk_told_many_claims(self):
        desk = Desk()
        for claim in chance_claims(283, 40, 4, 6):
            self.answered(desk, "kinds " + (" ".join(claim[0]) or "-"), "ok")
            self.answered(desk, "show", show_claim((claim[0], ())))
            self.refused(NoBack, desk, "back")
            for row in claim[1]:
                self.answered(desk, "row " + (" ".join(map(str, row)) or "0"), "ok")
            self.check(desk, claim)

    def test_by_hand(self):
        desk = Desk()
        for row, answer in [
                ("kinds all some", "ok"), ("show", "all some\n"), ("winner", "some"), ("plan", "some +"), ("least", "1"),
                ("count", "4"), ("paper", "some 1"), ("good", "-"), ("good y", "n y"), ("early 2", "1"),
                ("row 1 -2", "ok"), ("row -1 2", "ok"), ("show", "all some\n1 -2\n-1 2\n"), ("winner", "some"),
                ("winner y", "some"), ("winner y n", "all"), ("winner n n", "some"), ("good", "-"), ("good y", "y"),
                ("good n", "n"), ("good n y", "-"), ("plan", "some (n+|y+)"), ("least", "2"), ("count", "1"),
                ("early 2", "2"), ("row 0", "ok"), ("show", "all some\n1 -2\n-1 2\n0\n"), ("winner", "all"),
                ("lean", "2"), ("plan", "all 2"), ("paper", "all 1"), ("good", "n y"), ("count", "2"), ("early 1", "1"),
                ("out 2", "ok"), ("winner", "some"), ("out 0", "ok"), ("show", "all some\n-1 2\n"), ("back", "ok"),
                ("show", "all some\n1 -2\n-1 2\n"), ("back", "ok"), ("winner", "all"), ("back", "ok"), ("back", "ok"),
                ("show", "all some\n1 -2\n"), ("kinds -", "ok"), ("show", "-\n"), ("row 0", "ok"), ("show", "-\n0\n"),
                ("winner", "all"), ("good", "-"), ("lean", "0")]:
            self.answered(desk, row, answer)

    def test_lean_and_early_of_many(self):
        rows = [row for row in rows_over(3) if len(row) == 3]
        self.answered(desk_of((("some",) * 3, tuple(rows))), "lean", "0 1 2 3 4 5 6 7")
        for k in range(1, 8):
            claim = (("all",) * 7 + ("some",), ((k, -8), (-k, 8)))
            self.answered(desk_of(claim), "early 8", str(k + 1))

    def test_great_counts(self):
        self.answered(desk_of((("all",) * 7 + ("some",), ())), "count", str(2 ** 128))


class RefusedTest(DeskCase):
    def test_no_line(self):
        for claim in [(("all", "some"), ()), (("all", "some"), ((1, 2), (-1,))), (("all", "some"), ((1,),) * 20)]:
            desk = desk_of(claim)
            for row in NO_LINES + NO_KINDS:
                self.refused(NoLine, desk, row)
            self.answered(desk, "show", show_claim(claim))

    def test_ahead_of_kinds(self):
        desk = Desk()
        for row in ASKED + NO_LINES + NO_KINDS:
            self.refused(NoLine, desk, row)
        self.answered(desk, "kinds all some", "ok")
        for row in ASKED:
            try:
                self.assertIs(type(desk.say(row)), str)
            except NoLine:
                self.fail(row)
            except (NotWon, NoRow):
                pass

    def test_no_line_of_no_names(self):
        desk = desk_of(((), ()))
        for row in ["row 1", "row -1", "winner y", "winner n", "good y", "early 1", "early 0", "row -", "row"]:
            self.refused(NoLine, desk, row)

    def test_too_many(self):
        desk = desk_of((("all", "some"), ((1,),) * 20))
        for row in ["row 1", "row 0", "row -1 2"]:
            self.refused(TooMany, desk, row)
        for row in ["row 3", "row", "row 2 1", "row 00"]:
            self.refused(NoLine, desk, row)
        desk.say("out 3")
        self.answered(desk, "row 0", "ok")
        self.refused(TooMany, desk, "row 0")
        desk.say("back")
        self.answered(desk, "row 2", "ok")

    def test_no_row(self):
        for count in (0, 1, 5, 20):
            desk = desk_of((("all", "some"), ((1,),) * count))
            for number in (count, count + 1, 21, 100, 999, 1000, 9999):
                self.refused(NoRow, desk, f"out {number}")
        desk = desk_of((("all", "some"), ((1,),) * 20))
        self.answered(desk, "out 19", "ok")
        self.refused(NoRow, desk, "out 19")

    def test_no_back(self):
        desk = Desk()
        self.refused(NoLine, desk, "back")
        desk.say("kinds all some")
        self.refused(NoBack, desk, "back")
        desk.say("row 1")
        self.answered(desk, "back", "ok")
        self.refused(NoBack, desk, "back")
        desk.say("row 1")
        desk.say("kinds some")
        self.refused(NoBack, desk, "back")
        self.answered(desk, "show", "some\n")

    def test_not_won(self):
        desk = desk_of((("all", "some"), ()))
        self.refused(NotWon, desk, "lean")
        self.refused(NotWon, desk, "early 1")
        self.answered(desk, "early 2", "1")
        desk.say("row 0")
        self.answered(desk, "lean", "0")
        self.answered(desk, "early 1", "1")
        self.refused(NotWon, desk, "early 2")
        for row in ("early 0", "early 3", "early 9999"):
            self.refused(NoLine, desk, row)

    def test_refused_kinds_leave_the_claim_and_what_may_be_taken_back(self):
        desk = desk_of((("all", "some"), ((1,), (2,))))
        for row in NO_KINDS + NO_LINES:
            self.refused(NoLine, desk, row)
        self.answered(desk, "back", "ok")
        self.answered(desk, "show", "all some\n1\n")
        self.answered(desk, "back", "ok")
        self.refused(NoBack, desk, "back")

    def test_kinds_to_eight(self):
        for many in range(1, 9):
            desk = Desk()
            self.answered(desk, "kinds" + " some" * many, "ok")
            self.answered(desk, "winner" + " y" * many, "some")
            self.refused(NoLine, desk, "winner" + " y" * (many + 1))
            self.answered(desk, f"row {many}", "ok")
            self.refused(NoLine, desk, f"row {many + 1}")
        self.refused(NoLine, Desk(), "kinds" + " some" * 9)


class TakenBackTest(DeskCase):
    def test_by_draws(self):
        chance = random.Random(284)
        for _ in range(20):
            desk, rows, past = Desk(), [], []
            desk.say("kinds all some all")
            for _ in range(80):
                draw = chance.random()
                if draw < 0.5:
                    row = chance.choice(rows_over(3))
                    text = "row " + (" ".join(map(str, row)) or "0")
                    if len(rows) == 20:
                        self.refused(TooMany, desk, text)
                    else:
                        self.answered(desk, text, "ok")
                        past.append(list(rows))
                        rows.append(row)
                elif draw < 0.7:
                    number = chance.randint(0, 20)
                    if number >= len(rows):
                        self.refused(NoRow, desk, f"out {number}")
                    else:
                        self.answered(desk, f"out {number}", "ok")
                        past.append(list(rows))
                        rows.pop(number)
                elif draw < 0.85 and past:
                    self.answered(desk, "back", "ok")
                    rows = past.pop()
                elif draw < 0.85:
                    self.refused(NoBack, desk, "back")
                else:
                    self.refused(NoLine, desk, chance.choice(NO_KINDS))
                claim = (("all", "some", "all"), tuple(rows))
                self.answered(desk, "show", show_claim(claim))
                self.answered(desk, "winner", winner(claim, ()))

    def test_what_is_asked_is_not_taken_back(self):
        desk = desk_of((("all", "some"), ((1, 2), (-1, 2))))
        for row in ["winner", "good y", "plan", "least", "count", "paper", "early 2", "show"]:
            desk.say(row)
        self.answered(desk, "back", "ok")
        self.answered(desk, "show", "all some\n1 2\n")

    def test_two_side_by_side(self):
        one, other = Desk(), Desk()
        one.say("kinds all")
        self.refused(NoLine, other, "show")
        other.say("kinds some some")
        one.say("row 1")
        other.say("row 1 2")
        self.answered(one, "show", "all\n1\n")
        self.answered(other, "show", "some some\n1 2\n")
        one.say("back")
        self.answered(one, "show", "all\n")
        self.answered(other, "show", "some some\n1 2\n")
        other.say("kinds -")
        self.answered(one, "show", "all\n")
        self.assertEqual((one.say("winner"), other.say("winner")), ("some", "some"))


if __name__ == "__main__":
    unittest.main()
