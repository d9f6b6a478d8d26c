"""Texts: claims and trees written and read."""

from allsome.claims import MOST_NAMES, MOST_ROWS, is_kinds, is_row
from allsome.errors import NoText

FIGURES = "0123456789"
MOST_FIGURES = 4
PICKS = {"n": False, "y": True}


def show_pick(truth):
    """A pick as it is written."""
    return "y" if truth else "n"


def show_row(row):
    """A row as it is written, without its line end."""
    return " ".join([str(literal) for literal in row]) if row else "0"


def show_claim(claim):
    """The claim's text."""
    kinds = " ".join(claim[0]) if claim[0] else "-"
    rows = [kinds] + [show_row(row) for row in claim[1]]
    return "".join([f"{row}\n" for row in rows])


def show_tree(tree):
    """The tree's text."""
    if tree[0] == "kept":
        return "+"
    if tree[0] == "lost":
        return str(tree[1])
    if tree[0] == "pick":
        return show_pick(tree[1]) + show_tree(tree[2])
    no = show_tree(tree[1])
    yes = show_tree(tree[2])
    return f"({no}|{yes})"


def read_number(word):
    """The number that a word of one to four figures writes, no 0 ahead but 0 itself, or None where it is none."""
    if len(word) == 0 or len(word) > MOST_FIGURES or not all([sign in FIGURES for sign in word]):
        return None
    if word[0] == "0" and word != "0":
        return None
    return int(word)


def read_literal(word):
    """The whole number that a word writes, - ahead of those below 0, or None where it writes none."""
    if not word.startswith("-"):
        return read_number(word)
    number = read_number(word[1:])
    return None if number is None else -number


def read_row(many, words):
    """The row over so many names that these words write, or None where they write none."""
    if words == ["0"]:
        return ()
    row = tuple([read_literal(word) for word in words])
    return row if row and is_row(many, row) else None


def read_kinds(words):
    """The kinds that these words write, or None where they write none."""
    if words == ["-"]:
        return ()
    kinds = tuple(words)
    return kinds if kinds and is_kinds(kinds) else None


def read_picks(many, words):
    """The play of a claim of so many names that these words write, or None where they write none."""
    if len(words) > many or not all([word in PICKS for word in words]):
        return None
    return tuple([PICKS[word] for word in words])


def read_claim(text):
    """The claim that a text writes, refused with NoText."""
    lines = text.split("\n")
    # What stands behind the last line end is a row without its own, unless it is empty.
    ended = lines[:-1]
    kinds = read_kinds(ended[0].split(" ")) if ended else None
    if kinds is None:
        raise NoText(0)
    rows = []
    for number, line in enumerate(ended[1:], start=1):
        row = read_row(len(kinds), line.split(" "))
        if row is None or number > MOST_ROWS:
            raise NoText(number)
        rows.append(row)
    if lines[-1] != "":
        raise NoText(len(ended))
    return (kinds, tuple(rows))


def tree_at(text, place, deep):
    """The tree of at most so many within one another that begins at this place, and where it ends, or None."""
    sign = text[place:place + 1]
    if sign == "+":
        return (("kept",), place + 1)
    if deep > 0 and sign in PICKS:
        return pick_at(text, place, deep)
    if deep > 0 and sign == "(":
        return each_at(text, place, deep)
    return lost_at(text, place)


def lost_at(text, place):
    """As tree_at, for a lost."""
    end = place
    while end < len(text) and text[end] in FIGURES:
        end += 1
    number = read_number(text[place:end])
    if number is None or number >= MOST_ROWS:
        return None
    return (("lost", number), end)


def pick_at(text, place, deep):
    """As tree_at, for a pick."""
    told = tree_at(text, place + 1, deep - 1)
    if told is None:
        return None
    return (("pick", PICKS[text[place]], told[0]), told[1])


def each_at(text, place, deep):
    """As tree_at, for an each."""
    trees = []
    end = place
    for sign in ("|", ")"):
        told = tree_at(text, end + 1, deep - 1)
        if told is None or text[told[1]:told[1] + 1] != sign:
            return None
        trees.append(told[0])
        end = told[1]
    return (("each", trees[0], trees[1]), end + 1)


def read_tree(text):
    """The tree that a text writes, or None where it writes none."""
    # A pick or each goes with a name, so no more of them than names stand within one another.
    told = tree_at(text, 0, MOST_NAMES)
    if told is None or told[1] != len(text):
        return None
    return told[0]
