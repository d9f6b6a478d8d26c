"""[23]: claims and trees written and read."""

import itertools
import random
import unittest

from allsome.errors import ClaimError, NoText
from allsome.plans import plan
from allsome.texts import read_claim, read_tree, show_claim, show_tree
from tests.helper import SIDES, chance_claims, great_claims, picks_within, rows_over, some_claim, tiny_claims, trees

SIGNS = [chr(sign) for sign in range(32, 127)] + ["\t", "\n"]
# Signs of which texts are made, so that one put in often makes another right text.
CLAIM_SIGNS = "alsome -0123456789\n\t+"
TREE_SIGNS = "+yn(|)0123456789 \n-"


def written(claim):
    """A claim's text."""
    lines = [" ".join(claim[0]) or "-"]
    for row in claim[1]:
        lines.append(" ".join(str(literal) for literal in row) or "0")
    return "\n".join(lines) + "\n"


def every_text():
    """All texts of the lines of a claim: what each line says, for each number of names."""
    found = {}
    for many in range(9):
        found[many] = {" ".join(str(literal) for literal in row) or "0": row for row in rows_over(many)}
    return found


ROWS = every_text()
KINDS = {" ".join(kinds) or "-": kinds for many in range(9) for kinds in itertools.product(SIDES, repeat=many)}


def slow_read(text):
    """What a text says, a claim or the number of the first line that isn't so, by looking up whole lines."""
    lines = text.split("\n")
    ended, rest = lines[:-1], lines[-1]
    if not ended or ended[0] not in KINDS:
        return 0
    kinds = KINDS[ended[0]]
    for number, line in enumerate(ended[1:], start=1):
        if number > 20 or line not in ROWS[len(kinds)]:
            return number
    if rest:
        return len(ended)
    return (kinds, tuple(ROWS[len(kinds)][line] for line in ended[1:]))


def tree_text(tree):
    """A tree's text."""
    if tree[0] in ("kept", "lost"):
        return "+" if tree[0] == "kept" else f"{tree[1]}"
    if tree[0] == "pick":
        return ("n", "y")[tree[1]] + tree_text(tree[2])
    return "(" + tree_text(tree[1]) + "|" + tree_text(tree[2]) + ")"


def chance_tree(chance, deep):
    """A tree of at most so many within one another, by chance."""
    draw = chance.random()
    if deep == 0 or draw < 0.15:
        return ("kept",) if chance.random() < 0.4 else ("lost", chance.randint(0, 19))
    if draw < 0.5:
        return ("pick", chance.random() < 0.5, chance_tree(chance, deep - 1))
    return ("each", chance_tree(chance, deep - 1), chance_tree(chance, deep - 1))


def spoilt(text, signs):
    """Texts with one sign put in, taken out or exchanged."""
    found = []
    for place in range(len(text) + 1):
        found += [text[:place] + sign + text[place:] for sign in signs]
        if place < len(text):
            found += [text[:place] + sign + text[place + 1:] for sign in signs]
            found.append(text[:place] + text[place + 1:])
    return found


class ClaimTextsTest(unittest.TestCase):
    def check(self, text):
        """What is read of a text, against the slow way."""
        want = slow_read(text)
        if type(want) is int:
            with self.assertRaises(NoText, msg=repr(text)) as caught:
                read_claim(text)
            self.assertEqual(caught.exception.line, want, repr(text))
            self.assertIs(type(caught.exception.line), int)
            self.assertIs(type(caught.exception), NoText)
            self.assertIsInstance(caught.exception, ClaimError)
        else:
            self.assertEqual(read_claim(text), want, repr(text))
        return want

    def refused(self, text, line):
        self.assertEqual(self.check(text), line, repr(text))

    def test_both_ways(self):
        chance = random.Random(271)
        claims = tiny_claims(2) + chance_claims(272, 200, 8, 20) + [some_claim(chance, 8, 20) for _ in range(5)]
        for claim in claims + [((), ()), ((), ((),)), ((), ((),) * 20), (("all",) * 8, ()), (("some",) * 8, ((),))]:
            text = show_claim(claim)
            self.assertIs(type(text), str)
            self.assertEqual(text, written(claim))
            told = self.check(text)
            self.assertEqual(told, claim)
            told = read_claim(text)
            self.assertEqual([type(part) for part in (told, told[0], told[1])], [tuple] * 3)
            self.assertTrue(all(type(row) is tuple and all(type(k) is int for k in row) for row in told[1]))

    def test_by_hand(self):
        self.assertEqual(show_claim(((), ())), "-\n")
        self.assertEqual(show_claim(((), ((),))), "-\n0\n")
        self.assertEqual(show_claim((("some",), ((), (1,), (-1,)))), "some\n0\n1\n-1\n")
        self.assertEqual(show_claim((("all", "some"), ((1, -2), (-1, 2)))), "all some\n1 -2\n-1 2\n")
        self.assertEqual(read_claim("all some\n1 -2\n-1 2\n"), (("all", "some"), ((1, -2), (-1, 2))))
        self.assertEqual(read_claim("-\n0\n0\n"), ((), ((), ())))
        self.assertEqual(read_claim("-\n"), ((), ()))

    def test_more_than_twenty_rows(self):
        for claim in great_claims(273):
            self.assertEqual(show_claim(claim), written(claim))
            if len(claim[1]) > 20:
                self.refused(show_claim(claim), 21)
        for count in (19, 20, 21, 22, 500):
            text = "some\n" + "1\n" * count
            self.assertEqual(type(self.check(text)), tuple if count <= 20 else int)
        self.refused("some\n" + "1\n" * 20 + "x\n", 21)
        self.refused("some\n" + "1\n" * 20 + "1", 21)
        self.refused("some\n" + "1\n" * 20 + "\n", 21)
        self.refused("some\n" + "1\n" * 19 + "2\n" + "1\n", 20)
        self.refused("some\n1\n2\n" + "1\n" * 30, 2)

    def test_a_sign_put_in_taken_out_or_exchanged(self):
        for claim in [((), ()), ((), ((),)), (("all",), ((1,), (), (-1,))), (("some", "all"), ((1, -2), (2,))),
                      (("all", "some", "all"), ((-1, 2, -3), (), (1, 3)))]:
            for text in spoilt(written(claim), CLAIM_SIGNS):
                self.check(text)
        for text in spoilt("all some\n0\n1 -2\n", SIGNS):
            self.check(text)

    def test_signs_spoilt_twice(self):
        chance = random.Random(274)
        seen = set()
        for claim in chance_claims(275, 300, 8, 22):
            text = written(claim)
            for _ in range(chance.randint(1, 2)):
                text = chance.choice(spoilt(text, chance.choice(CLAIM_SIGNS)))
            want = self.check(text)
            seen.add(want if type(want) is int else "right")
        self.assertGreater(len(seen), 8)

    def test_blanks_and_tabs(self):
        for line in ["1  2", " 1 2", "1 2 ", "1\t2", "\t1 2", "1 2\t", " ", "  ", "\t", " 0", "0 ", "1 2  ", "1, 2"]:
            self.refused(f"all some\n{line}\n", 1)
            self.refused(f"all some\n1\n{line}\n2\n", 2)
        for line in ["all  some", " all some", "all some ", "all\tsome", "\tall", " ", "", " -", "- ", "\t"]:
            self.refused(f"{line}\n", 0)
            self.refused(f"{line}\n0\n", 0)

    def test_no_last_line_end(self):
        self.refused("", 0)
        self.refused("-", 0)
        self.refused("all some", 0)
        self.refused("all some\n1 2", 1)
        self.refused("all some\n1 2\n-1", 2)
        self.refused("all some\n1 2\nx", 2)
        self.refused("all some\nx\n1", 1)
        self.refused("nobody\n1 2", 0)

    def test_empty_rows_in_the_text(self):
        self.refused("\n", 0)
        self.refused("\nall\n", 0)
        self.refused("all\n\n", 1)
        self.refused("all\n1\n\n1\n", 2)
        self.refused("-\n\n", 1)
        self.refused("all\n1\n\n", 2)

    def test_kinds_that_are_none(self):
        for line in ["none", "All", "all Some", "some-", "all -", "- all", "- -", "--", "0", "1", "allsome", "al",
                     "all, some", "'all'", "-\t", "+"]:
            self.refused(f"{line}\n", 0)
        for many in (9, 10, 200):
            self.refused(" ".join(["all"] * many) + "\n", 0)
        self.assertEqual(self.check(" ".join(["all"] * 8) + "\n"), (("all",) * 8, ()))

    def test_literals_that_are_none(self):
        for line in ["01", "-01", "00", "-0", "+1", "+0", "--1", "1-", "- 1", "-", "0 1", "1 0", "0 0", "-0 1", "x", "1x",
                     "1.0", "1e0", "0x1", "1_0", "four", "4", "-4", "1 4", "1 1", "1 -1", "2 1", "-3 -2", "1 2 3 4",
                     "1" * 30, "9" * 5000, "-" + "9" * 5000, "0" * 5000, "1,2", "10", "100", "1 2 3 3"]:
            self.refused(f"all some all\n{line}\n", 1)
            self.refused(f"all some all\n1 2\n{line}\n3\n", 2)
        for line in ["1", "-1", "2"]:
            self.refused(f"-\n{line}\n", 1)

    def test_each_line_alone(self):
        # Each right line of four names, beside those of as many signs that are not.
        signs = "-01234 "
        for size in range(1, 6):
            for line in map("".join, itertools.product(signs, repeat=size)):
                text = f"all some all some\n{line}\n"
                if slow_read(text) == 1:
                    self.assertRaises(NoText, read_claim, text)
                else:
                    self.check(text)


class TreeTextsTest(unittest.TestCase):
    def test_both_ways(self):
        chance = random.Random(276)
        for tree in trees(2, [0, 9, 10, 19])[::3] + [chance_tree(chance, 8) for _ in range(400)]:
            text = show_tree(tree)
            self.assertIs(type(text), str)
            self.assertEqual(text, tree_text(tree))
            self.assertEqual(read_tree(text), tree)

    def test_by_hand(self):
        for tree, text in [(("kept",), "+"), (("lost", 0), "0"), (("lost", 7), "7"), (("lost", 19), "19"),
                           (("pick", True, ("kept",)), "y+"), (("pick", False, ("lost", 3)), "n3"),
                           (("each", ("kept",), ("pick", True, ("lost", 12))), "(+|y12)"),
                           (("each", ("each", ("lost", 1), ("lost", 2)), ("kept",)), "((1|2)|+)"),
                           (("pick", False, ("each", ("lost", 0), ("lost", 10))), "n(0|10)")]:
            self.assertEqual(show_tree(tree), text)
            told = read_tree(text)
            self.assertEqual(told, tree)
            self.assertIs(type(told), tuple)
        self.assertIs(read_tree("y+")[1], True)
        self.assertIs(read_tree("n+")[1], False)

    def test_plans(self):
        for claim in chance_claims(277, 200, 8, 20):
            tree = plan(claim)[1]
            self.assertEqual(read_tree(show_tree(tree)), tree)

    def test_eight_within_one_another_and_nine(self):
        for word in ("pick", "each"):
            for depth in range(13):
                tree = picks_within(depth, word)
                self.assertEqual(show_tree(tree), tree_text(tree))
                self.assertEqual(read_tree(tree_text(tree)), tree if depth <= 8 else None, (word, depth))
        mixed = ("lost", 19)
        for depth in range(1, 12):
            mixed = ("pick", True, mixed) if depth % 2 else ("each", ("kept",), mixed)
            self.assertEqual(read_tree(tree_text(mixed)), mixed if depth <= 8 else None)
            turned = tree_text(("each", mixed, ("lost", 0)))
            self.assertEqual(read_tree(turned) is None, depth >= 8)
        for text in ["y" * 8 + "+", "n" * 8 + "19", "(" * 8 + "+" + "|0)" * 8, "(0|" * 8 + "+" + ")" * 8]:
            self.assertEqual(tree_text(read_tree(text)), text)
        for text in ["y" * 9 + "+", "n" * 9 + "19", "(" * 9 + "+" + "|0)" * 9, "(0|" * 9 + "+" + ")" * 9,
                     "y" * 6000, "(" * 6000, "y" * 6000 + "+", ")" * 6000, "(+|" * 2000 + "+" + ")" * 2000]:
            self.assertIsNone(read_tree(text))

    def test_rows_numbers(self):
        for number in range(0, 1200):
            self.assertEqual(show_tree(("lost", number)), f"{number}")
            self.assertEqual(read_tree(f"{number}"), ("lost", number) if number <= 19 else None)
            self.assertEqual(read_tree(f"(y{number}|+)") is not None, number <= 19)
        for text in ["00", "01", "019", "-0", "-1", "+0", "0+", "1.", "1 ", " 1", "1\n", "20", "99", "100", "190", "1" * 30,
                     "9" * 5000, "0" * 5000]:
            self.assertIsNone(read_tree(text), text[:20])

    def test_texts_that_are_none(self):
        for text in ["", " ", "y", "n", "(", ")", "|", "()", "(|)", "(+)", "(+|)", "(|+)", "(+|+", "+|+)", "(+|+))",
                     "((+|+)", "(+|+|+)", "(++)", "++", "+y", "y+ ", " y+", "y +", "Y+", "N+", "yes+", "kept", "lost 0",
                     "(+ | +)", "( +|+)", "(+|+ )", "[+|+]", "+\n", "\t+", "y(+|+)+", "(+|+)y+", "(+|+)(+|+)", "x", "-",
                     "((+|+)|+", "(+|(+|+)", "y()", "1+", "+1", "1 2", "y|+", "y)"]:
            self.assertIsNone(read_tree(text), repr(text))

    def test_a_sign_put_in_taken_out_or_exchanged(self):
        chance = random.Random(278)
        wanted = [tree_text(chance_tree(chance, 4)) for _ in range(15)] + ["(y+|n(10|19))", "y12", "(0|1)"]
        for text in wanted:
            for other in spoilt(text, TREE_SIGNS):
                told = read_tree(other)
                if told is not None:
                    self.assertEqual(tree_text(told), other)
        for other in spoilt("(y+|n19)", SIGNS):
            told = read_tree(other)
            self.assertTrue(told is None or tree_text(told) == other)

    def test_all_short_texts(self):
        right = {tree_text(tree) for tree in trees(2, [0, 1, 10, 11])}
        for size in range(6):
            for text in map("".join, itertools.product("+yn(|)01", repeat=size)):
                # In so few signs no more than picks stand around two within one another.
                self.assertEqual(read_tree(text) is not None, text.lstrip("yn") in right, text)


if __name__ == "__main__":
    unittest.main()
