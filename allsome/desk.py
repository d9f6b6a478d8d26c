"""A desk: it is told rows of words and answers by texts."""

from allsome.cores import lean
from allsome.counted import how_many_plans
from allsome.errors import NoLine
from allsome.fewest import least_plan
from allsome.games import good_picks, winner
from allsome.keeper import Keeper
from allsome.moved import earliest
from allsome.texts import read_kinds, read_number, read_picks, read_row, show_claim, show_pick, show_tree


def refuse_words(words):
    """Refuses with NoLine where there are words."""
    if len(words) > 0:
        raise NoLine("no word stands behind this one")


def number_told(words):
    """The number that the one word tells, refused with NoLine."""
    number = read_number(words[0]) if len(words) == 1 else None
    if number is None:
        raise NoLine("one number stands behind this word")
    return number


def play_told(keeper, words):
    """The play that the words tell, refused with NoLine."""
    play = read_picks(len(keeper.claim()[0]), words)
    if play is None:
        raise NoLine("picks stand behind this word, y or n, at most as many as names")
    return play


def say_row(keeper, words):
    """Answers "row LITERALS"."""
    row = read_row(len(keeper.claim()[0]), words)
    if row is None:
        raise NoLine("a row of these names stands behind this word")
    keeper.put(row)
    return "ok"


def say_out(keeper, words):
    """Answers "out K"."""
    keeper.out(number_told(words))
    return "ok"


def say_back(keeper, words):
    """Answers "back"."""
    refuse_words(words)
    keeper.back()
    return "ok"


def say_winner(keeper, words):
    """Answers "winner PICKS"."""
    return winner(keeper.claim(), play_told(keeper, words))


def say_good(keeper, words):
    """Answers "good PICKS"."""
    good = good_picks(keeper.claim(), play_told(keeper, words))
    return " ".join([show_pick(truth) for truth in good]) if good else "-"


def say_plan(keeper, words):
    """Answers "plan"."""
    refuse_words(words)
    told = keeper.plan()
    return told[0] + " " + show_tree(told[1])


def say_least(keeper, words):
    """Answers "least"."""
    refuse_words(words)
    return str(least_plan(keeper.claim())[1])


def say_count(keeper, words):
    """Answers "count"."""
    refuse_words(words)
    return str(how_many_plans(keeper.claim(), keeper.winner()))


def say_paper(keeper, words):
    """Answers "paper"."""
    refuse_words(words)
    told = keeper.paper()
    return told[0] + " " + str(len(told[1]))


def say_lean(keeper, words):
    """Answers "lean"."""
    refuse_words(words)
    return " ".join([str(number) for number in lean(keeper.claim())])


def say_early(keeper, words):
    """Answers "early K"."""
    name = number_told(words)
    if name < 1 or name > len(keeper.claim()[0]):
        raise NoLine("a name's number stands behind this word")
    return str(earliest(keeper.claim(), name))


def say_show(keeper, words):
    """Answers "show"."""
    refuse_words(words)
    return show_claim(keeper.claim())


ANSWERS = {
    "row": say_row,
    "out": say_out,
    "back": say_back,
    "winner": say_winner,
    "good": say_good,
    "plan": say_plan,
    "least": say_least,
    "count": say_count,
    "paper": say_paper,
    "lean": say_lean,
    "early": say_early,
    "show": say_show,
}


class Desk:
    """A desk, at first without kinds."""

    def __init__(self):
        self.keeper = None

    def begin(self, words):
        """A claim of these kinds without rows stands, refused with NoLine."""
        kinds = read_kinds(words)
        if kinds is None:
            raise NoLine("kinds stand behind this word, at most eight, or - for none")
        self.keeper = Keeper(kinds)
        return "ok"

    def say(self, row):
        """The answer to a row, refused with NoLine, TooMany, NoRow, NoBack or NotWon."""
        words = row.split(" ")
        if words[0] == "kinds":
            return self.begin(words[1:])
        answer = ANSWERS.get(words[0])
        if self.keeper is None or answer is None:
            raise NoLine("no kinds stand, or this is no word for a row")
        return answer(self.keeper, words[1:])
