"""What the tests share: claims to ask about, things of all kinds, and answers found the slow way.

The slow ways draw nothing from the program, so that both can be held against one another.
"""

import itertools
import random

SIDES = ("all", "some")
TRUTHS = (False, True)


def nested(depth, kind):
    """Tuples or lists within one another, so many deep."""
    thing = kind()
    for _ in range(depth - 1):
        thing = kind([thing])
    return thing


def picks_within(depth, word):
    """Picks or each within one another, so many deep."""
    thing = ("kept",)
    for _ in range(depth):
        thing = ("pick", True, thing) if word == "pick" else ("each", thing, thing)
    return thing


# No claim, no play of one name or more, no tree that is a plan: things of all kinds that [2] names.
THINGS = [
    0, 1, -1, 2, 10 ** 30 - 1, -(10 ** 30 - 1), True, False, None,
    "", "all", "some", "kept", "lost", "pick", "each", "a b\tc\n~", "x" * 6000,
    [], [[]], [()], ((),), ([],), ((), (), ()), [(), ()], [[], []], ((), []), ([], ()), (None,), (None, None),
    (0,), (1,), ("",), ("all",), ("some", "all"), ("kept", "kept"), ("kept",) * 3, "kept,",
    nested(20, tuple), nested(20, list), (nested(19, list), nested(19, tuple)), [nested(19, tuple)],
    [0] * 6999, (0,) * 6999, ((),) * 6999, [[]] * 3000, (10 ** 29, -10 ** 29), (True, 1), (0, False),
    ("kept", ()), ("lost",), ("lost", 10 ** 30 - 1), ("lost", None), ("lost", "0"), ("lost", (0,)), ("lost", [0]),
    ("lost", 0, 0), ("pick",), ("pick", True), ("pick", None, None), ("each",), ("each", None), ("each", None, None),
    ("each", 0, 1), ([], True, ("kept",)), ((), ("kept",), ("kept",)), (None, True, ("kept",)),
    ("picks", True, ("kept",)), ("Each", ("kept",), ("kept",)), ["kept"], ["lost", 0], "lost 0",
]


def is_right(literal, full):
    """Whether a literal is right in a full play."""
    return full[abs(literal) - 1] is (literal > 0)


def is_won_by_some(claim, full):
    """Whether each row has a right literal in a full play."""
    return all(any(is_right(literal, full) for literal in row) for row in claim[1])


def full_plays(many, play=()):
    """The full plays of so many names that begin with a play."""
    return [play + rest for rest in itertools.product(TRUTHS, repeat=many - len(play))]


def plays(many):
    """All plays of so many names: fewer picks first, and of as many the least first."""
    return [play for length in range(many + 1) for play in itertools.product(TRUTHS, repeat=length)]


def winners(claim, terms=()):
    """Each play's winner, by going back from the full plays; those with all literals of a term right count as kept."""
    many = len(claim[0])
    table = {}
    for play in reversed(plays(many)):
        if len(play) == many:
            kept = is_won_by_some(claim, play) or any(all(is_right(k, play) for k in term) for term in terms)
            table[play] = "some" if kept else "all"
        else:
            chooser = claim[0][len(play)]
            behind = [table[play + (truth,)] for truth in TRUTHS]
            other = "some" if chooser == "all" else "all"
            table[play] = chooser if chooser in behind else other
    return table


def is_right_plan(claim, side, tree, play=()):
    """Whether a tree is a plan of the side behind a play, by a look at all full plays behind each end."""
    many = len(claim[0])
    if tree[0] == "kept":
        return side == "some" and all(is_won_by_some(claim, full) for full in full_plays(many, play))
    if tree[0] == "lost":
        return side == "all" and 0 <= tree[1] < len(claim[1]) and is_lost_by_all(claim, claim[1][tree[1]], play)
    if len(play) == many or (claim[0][len(play)] == side) != (tree[0] == "pick"):
        return False
    if tree[0] == "pick":
        return is_right_plan(claim, side, tree[2], play + (tree[1],))
    return all(is_right_plan(claim, side, tree[1 + truth], play + (truth,)) for truth in TRUTHS)


def is_lost_by_all(claim, row, play):
    """Whether the row is lost in each full play behind the play in which All picks its open literals wrong."""
    open_of_all = [k for k in row if abs(k) > len(play) and claim[0][abs(k) - 1] == "all"]
    for full in full_plays(len(claim[0]), play):
        picked_wrong = not any(is_right(literal, full) for literal in open_of_all)
        if picked_wrong and any(is_right(literal, full) for literal in row):
            return False
    return True


def trees(depth, numbers):
    """All trees of at most so many picks or each within one another, with these rows' numbers."""
    found = [("kept",)] + [("lost", number) for number in numbers]
    if depth > 0:
        lesser = trees(depth - 1, numbers)
        found += [("pick", truth, tree) for truth in TRUTHS for tree in lesser]
        found += [("each", no, yes) for no in lesser for yes in lesser]
    return found


def may_end(claim, side, play):
    """Whether a plan of the side may end behind a play, by the picked literals alone."""
    picked = {k if truth else -k for k, truth in enumerate(play, start=1)}
    unkept = [row for row in claim[1] if not picked & set(row)]
    if side == "some":
        return not unkept
    return any(all(claim[0][abs(k) - 1] == "all" for k in row if abs(k) > len(play)) for row in unkept)


def fewest_ends(claim):
    """The winner and the fewest ends of its plans, by going back from the full plays."""
    table = winners(claim)
    fewest = {}
    for play in reversed(plays(len(claim[0]))):
        who = table[play]
        if may_end(claim, who, play):
            fewest[play] = 1
        else:
            behind = [fewest[play + (truth,)] for truth in TRUTHS if table[play + (truth,)] == who]
            fewest[play] = min(behind) if claim[0][len(play)] == who else sum(behind)
    return table[()], fewest[()]


def lessened(kinds, side, row):
    """A row without those literals of the side behind which it has none of the other's."""
    others = [abs(k) for k in row if kinds[abs(k) - 1] != side]
    return tuple(k for k in row if abs(k) <= max(others, default=0))


def joined(one, other, name):
    """All literals of both rows but name and its opposite, or None where they can't be joined."""
    if name not in one or -name not in other:
        return None
    rest = set(one) - {name} | set(other) - {-name}
    if any(-literal in rest for literal in rest):
        return None
    return tuple(sorted(rest, key=abs))


def terms_for(claim):
    """All terms of which each row of the claim has a literal."""
    return [term for term in rows_over(len(claim[0])) if all(set(term) & set(row) for row in claim[1])]


def first_steps(claim, side):
    """All steps of the side's paper that need no other one."""
    if side == "all":
        return [("row", k) for k in range(len(claim[1]))]
    return [("term", term) for term in terms_for(claim)]


def made(claim, side, steps):
    """The rows or terms that right steps make, or those ahead of the first that makes none."""
    found = []
    for step in steps:
        row = None
        if step[0] in ("row", "term"):
            row = claim[1][step[1]] if step[0] == "row" else step[1]
        elif step[0] == "less":
            row = lessened(claim[0], side, found[step[1]])
        elif claim[0][step[3] - 1] != side:
            row = joined(found[step[1]], found[step[2]], step[3])
        if row is None:
            return found
        found.append(row)
    return found


def chance_steps(chance, claim, side, how_many):
    """At most so many right steps of the side's paper, by chance."""
    firsts = first_steps(claim, side)
    steps = []
    names = [k for k, kind in enumerate(claim[0], start=1) if kind != side]
    while firsts and len(steps) < how_many:
        tried = chance.choice(firsts)
        if steps and chance.random() < 0.7:
            i, j = chance.randrange(len(steps)), chance.randrange(len(steps))
            tried = ("joined", i, j, chance.choice(names)) if names and chance.random() < 0.8 else ("less", i)
        if len(made(claim, side, steps + [tried])) > len(steps):
            steps.append(tried)
        else:
            steps.append(chance.choice(firsts))
    return steps


def chance_paper(chance, claim, side, most=200):
    """A paper of the side's that comes to the empty row by steps of chance, or None where chance found none."""
    steps = first_steps(claim, side)
    chance.shuffle(steps)
    steps = steps[:40]
    rows = made(claim, side, steps)
    names = [k for k, kind in enumerate(claim[0], start=1) if kind != side]
    for _ in range(40 * most):
        if not steps or len(steps) >= most:
            return None
        if () in rows:
            return steps[:rows.index(()) + 1]
        i, j = chance.randrange(len(steps)), chance.randrange(len(steps))
        step, row = ("less", i), lessened(claim[0], side, rows[i])
        if names and chance.random() < 0.8:
            name = chance.choice(names)
            step, row = ("joined", i, j, name), joined(rows[i], rows[j], name)
        # Mostly new rows, but not these alone.
        if row is not None and (row not in rows or chance.random() < 0.1):
            steps.append(step)
            rows.append(row)
    return None


def moved_on(steps, by):
    """The same steps with so many others ahead of them."""
    found = []
    for step in steps:
        if step[0] == "less":
            step = ("less", step[1] + by)
        elif step[0] == "joined":
            step = ("joined", step[1] + by, step[2] + by, step[3])
        found.append(step)
    return found


def last_away(claim):
    """The unlike rows where the last name is put away, and the claim that is told of them."""
    kinds, name = claim[0], len(claim[0])
    rows = {frozenset(row) for row in claim[1]}
    if kinds[-1] == "all":
        unlike = {row - {name, -name} for row in rows}
    else:
        unlike = {row for row in rows if not row & {name, -name}}
        for one in [row for row in rows if name in row]:
            for other in [row for row in rows if -name in row]:
                both = (one | other) - {name, -name}
                if len({abs(literal) for literal in both}) == len(both):
                    unlike.add(both)
    stay = [row for row in unlike if not any(other < row for other in unlike)]
    return unlike, (kinds[:-1], tuple(sorted(tuple(sorted(row, key=abs)) for row in stay)))


def parts(kinds, side):
    """The names of the side, each with each choice of the other one's names ahead of it, rising."""
    found = []
    for k, kind in enumerate(kinds, start=1):
        if kind == side:
            ahead = len([other for other in kinds[:k - 1] if other != side])
            found += [(k, choice) for choice in itertools.product(TRUTHS, repeat=ahead)]
    return sorted(found)


def plays_by(kinds, side, full_plan):
    """The full plays in which the side picks by its full plan, a truth for each part."""
    picks = dict(zip(parts(kinds, side), full_plan, strict=True))
    found = []
    for choice in itertools.product(TRUTHS, repeat=len([kind for kind in kinds if kind != side])):
        play, seen = (), 0
        for k, kind in enumerate(kinds, start=1):
            if kind == side:
                play += (picks[(k, choice[:seen])],)
            else:
                play += (choice[seen],)
                seen += 1
        found.append(play)
    return found


def full_plan_wins(claim, side, full_plan):
    """Whether the side wins each full play by its full plan."""
    return all(is_won_by_some(claim, play) is (side == "some") for play in plays_by(claim[0], side, full_plan))


def rows_over(many):
    """All rows over so many names."""
    found = []
    for signs in itertools.product((-1, 0, 1), repeat=many):
        found.append(tuple(sign * k for k, sign in enumerate(signs, start=1) if sign))
    return found


def tiny_claims(most_rows):
    """All claims of at most two names with at most so many unlike rows."""
    found = []
    for many in range(3):
        for kinds in itertools.product(SIDES, repeat=many):
            for count in range(most_rows + 1):
                found += [(kinds, rows) for rows in itertools.combinations(rows_over(many), count)]
    return found


def some_claim(chance, many, count, share=0.5):
    """A claim of so many names and rows, by chance; share is how often a row has a name."""
    kinds = tuple(chance.choice(SIDES) for _ in range(many))
    rows = []
    for _ in range(count):
        names = [k for k in range(1, many + 1) if chance.random() < share]
        rows.append(tuple(chance.choice((k, -k)) for k in names))
    return (kinds, tuple(rows))


def chance_claims(seed, how_many, most_names=5, most_rows=8):
    """Claims by chance, the same ones for the same seed."""
    chance = random.Random(seed)
    found = []
    for _ in range(how_many):
        many = chance.randint(0, most_names)
        found.append(some_claim(chance, many, chance.randint(0, most_rows), chance.choice((0.4, 0.6, 0.8))))
    return found


def great_claims(seed):
    """Claims of eight names: of twenty rows, and of more rows, to a thousand, some won by Some, some by All."""
    chance = random.Random(seed)
    found = [some_claim(chance, 8, 20, 0.5) for _ in range(6)]
    found += [some_claim(chance, 8, count, 0.7) for count in (21, 100, 1000)]
    found += [(kinds, rows * (1000 // max(1, len(rows)))) for kinds, rows in found[:3]]
    equal = tuple((-k, k + 4) for k in range(1, 5)) + tuple((k, -k - 4) for k in range(1, 5))
    found.append((("all",) * 4 + ("some",) * 4, equal * 125))
    found.append((("some",) * 4 + ("all",) * 4, equal * 125))
    late = tuple(row + (8,) for row in rows_over(7))
    found.append((("all", "some", "all", "some", "all", "some", "all", "some"), late[:1000]))
    found.append((("all", "some", "all", "some", "all", "some", "some", "all"), late[-1000:]))
    return found


def lost_in(row, many):
    """The full plays of so many names in which a row is lost."""
    names = {abs(literal): literal < 0 for literal in row}
    return set(itertools.product(*[[names[k]] if k in names else TRUTHS for k in range(1, many + 1)]))


def gone_back(kinds, lost):
    """Who wins where just these full plays are lost, by going back name by name."""
    for many in range(len(kinds) - 1, -1, -1):
        quantor = any if kinds[many] == "all" else all
        heads = itertools.product(TRUTHS, repeat=many)
        lost = {play for play in heads if quantor(play + (truth,) in lost for truth in TRUTHS)}
    return "all" if () in lost else "some"


def winner_of(claim):
    """Who wins a claim, by going back."""
    return gone_back(claim[0], set().union(*[lost_in(row, len(claim[0])) for row in claim[1]]))


def chosen_rows(claim, numbers):
    """The claim with the rows of these numbers alone."""
    return (claim[0], tuple(claim[1][number] for number in numbers))


def has_step(claim, one, other):
    """Whether a pairs claim has a step from one literal to another."""
    return tuple(sorted({-one, other}, key=abs)) in claim[1]


def is_right_road(claim, road, start, end):
    """Whether a list is a road from start to end, by a look at each step."""
    if type(road) is not list or not road or (road[0], road[-1]) != (start, end):
        return False
    names = len(claim[0])
    if not all(type(literal) is int and 1 <= abs(literal) <= names for literal in road):
        return False
    return all(has_step(claim, one, other) for one, other in zip(road, road[1:]))


def is_right_all(claim, why):
    """Whether a right tuple of words and roads is one of the four by which All wins."""
    kinds, rows = claim
    if why[0] == "empty":
        return rows[why[1]] == ()
    start, end = why[1][0], why[1][-1]
    of_start, of_end = kinds[abs(start) - 1], kinds[abs(end) - 1]
    if not is_right_road(claim, why[1], start, end):
        return False
    if why[0] == "meet":
        return len(why) == 2 and of_start == of_end == "all" and start != end
    if len(why) != 3 or not is_right_road(claim, why[2], end, start):
        return False
    if why[0] == "turn":
        return of_start == "some" and end == -start
    return why[0] == "early" and (of_start, of_end) == ("all", "some") and abs(end) < abs(start)


def by_rule(rule, literal):
    """The truth, or the literal of All's, by which a literal is right."""
    told = rule[abs(literal) - 1]
    if told is None:
        return literal
    if type(told) is bool:
        return told is (literal > 0)
    return told if literal > 0 else -told


def is_right_rule(claim, rule):
    """Whether by a rule each row is kept whatever All picks, by trying all picks for each row."""
    kinds, rows = claim
    for k, (kind, told) in enumerate(zip(kinds, rule, strict=True), start=1):
        if (kind == "all") != (told is None):
            return False
        if type(told) is int and not (1 <= abs(told) < k and kinds[abs(told) - 1] == "all"):
            return False
    for row in rows:
        told = [by_rule(rule, literal) for literal in row]
        names = sorted({abs(part) for part in told if type(part) is int})
        for picked in itertools.product((1, -1), repeat=len(names)):
            right = [name * sign for name, sign in zip(names, picked)]
            if not any(part in right if type(part) is int else part for part in told):
                return False
    return True


def is_right_told(claim, told):
    """Whether what is told of a pairs claim is so."""
    if told[0] == "all":
        return is_right_all(claim, told[1])
    return told[0] == "some" and is_right_rule(claim, told[1])


def chance_pairs(chance, most_names, most_rows, share=0.5):
    """A pairs claim by chance; share is how often a name is All's."""
    many = chance.randint(0, most_names)
    kinds = tuple("all" if chance.random() < share else "some" for _ in range(many))
    rows = []
    for _ in range(chance.randint(0, most_rows)):
        size = min(many, chance.choice((0, 1, 1) + (2,) * 40))
        names = sorted(chance.sample(range(1, many + 1), size))
        rows.append(tuple(chance.choice((k, -k)) for k in names))
    return (kinds, tuple(rows))


def kept_pairs(chance, many, count, share):
    """A pairs claim of so many names and rows that Some wins, by a rule drawn ahead, and the rule."""
    kinds = tuple("all" if chance.random() < share else "some" for _ in range(many))
    rule, rows = [], []
    for k, kind in enumerate(kinds, start=1):
        ahead = [name for name in range(1, k) if kinds[name - 1] == "all"]
        told = chance.choice((False, True))
        if ahead and chance.random() < 0.6:
            told = chance.choice(ahead) * chance.choice((1, -1))
        rule.append(None if kind == "all" else told)
    while len(rows) < count:
        one, other = chance.randint(1, many), chance.randint(1, many)
        if type(rule[one - 1]) is int and chance.random() < 0.6:
            # A name and the one that it is picked by: only so a rule by literals is needed.
            other = abs(rule[one - 1])
        row = tuple(k * chance.choice((1, -1)) for k in sorted({one, other}))
        if is_right_rule((kinds, (row,)), rule):
            rows.append(row)
    return (kinds, tuple(rows)), tuple(rule)


def along(road):
    """The rows that have a step from each literal of a road to the next."""
    return [tuple(sorted({-one, other}, key=abs)) for one, other in zip(road, road[1:])]


def long_roads(many):
    """Pairs claims of so many names with roads by all of them, each with the word of what All has, or None."""
    names = list(range(1, many + 1))
    some = ("some",) * many
    there = along(names)
    found = [(some, there, None), (some, there + [(-many,)], None)]
    found.append((some, there + [(1,), (-many,)], "turn"))
    found.append((some, there + [(-1, -many), (1, 2), (1, -2)], "turn"))
    found.append((some[1:] + ("all",), there, None))
    found.append((some[1:] + ("all",), there + along([many, 1]), "early"))
    found.append((("all",) + some[1:], there + along([many, 1]), None))
    found.append((("all",) + some[2:] + ("all",), there, "meet"))
    found.append((("all",) + some[1:], there + [(-1, -many)], "meet"))
    return [((kinds, tuple(rows)), word) for kinds, rows, word in found]
