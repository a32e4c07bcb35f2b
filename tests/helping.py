"""What the tests share: short ways to write trees and books, and a plain second telling to compare with."""

import itertools
import re

from treetellers.errors import TooBig, TooMany

ANY = ("any",)
LEAF = ("leaf",)
TOP = ("top",)
NUMBER_KINDS = (-1, 6, 7, 10**19, "0", "", None, (), (0,))


def tree(label, *kids):
    """A tree; patterns and builds with a label are written alike."""
    return (label, kids)


def do(state, *path):
    return ("do", state, path)


def chain(label, count, end=None):
    """So many places, each the only kid of the one ahead, the last one with the end below it."""
    below = () if end is None else (end,)
    for _ in range(count):
        below = ((label, below),)
    return below[0]


def places(whole, place=()):
    """All places, in turn, with what stands there."""
    found = [(place, whole)]
    for number, kid in enumerate(whole[1]):
        found.extend(places(kid, place + (number,)))
    return found


def count(whole):
    return 1 + sum(count(kid) for kid in whole[1])


def fits(pattern, whole):
    if pattern == ANY:
        return True
    if pattern == LEAF:
        return whole[1] == ()
    return pattern[0] == whole[0] and len(pattern[1]) == len(whole[1]) and all(map(fits, pattern[1], whole[1]))


def at_spot(spot, place, standing):
    if spot is None:
        return True
    if spot == TOP:
        return place == ()
    if place == ():
        return False
    if spot[0] == "under":
        return standing[place[:-1]][0] == spot[1]
    return place[-1] == spot[1]


def dos(build):
    if build[0] == "do":
        return [build]
    return [one for part in build[1] for one in dos(part)]


def put(build, trees):
    """The build with these trees laid for its dos, in turn."""
    if build[0] == "do":
        return trees.pop(0)
    return (build[0], tuple([put(part, trees) for part in build[1]]))


def rules_at(book, standing, place, state):
    return [
        rule
        for rule in book
        if rule[0] == state and at_spot(rule[1], place, standing) and fits(rule[2], standing[place])
    ]


def plain_told(book, whole):
    """What told tells: a tree, None, or the class of its refusal."""
    standing = dict(places(whole))
    known = {}

    def come(place, state):
        if (place, state) not in known:
            known[place, state] = once(place, rules_at(book, standing, place, state))
        return known[place, state]

    def once(place, rules):
        if not rules:
            return None
        below = [come(place + path, state) for _, state, path in dos(rules[0][3])]
        if None in below:
            return None
        out = put(rules[0][3], below)
        if count(out) > 400:
            raise TooBig("")
        return out

    try:
        return come((), 0)
    except TooBig:
        return TooBig


def plain_all(book, whole):
    """The list that all_told tells, or the set of the refusals of which it may tell one."""
    standing = dict(places(whole))
    known = {}
    refusals = set()

    def come(place, state):
        if (place, state) not in known:
            known[place, state] = once(place, state)
        return known[place, state]

    def once(place, state):
        rules = rules_at(book, standing, place, state)
        below = [[come(place + path, to) for _, to, path in dos(rule[3])] for rule in rules]
        if any(one is None for row in below for one in row):
            return None
        out = set()
        for rule, row in zip(rules, below):
            # An empty row makes the product empty; product itself would go over the others first.
            for choice in itertools.product(*row) if all(row) else ():
                out.add(put(rule[3], list(choice)))
                if len(out) > 60:
                    refusals.add(TooMany)
                    return None
        if any(count(one) > 400 for one in out):
            refusals.add(TooBig)
            return None
        return sorted(out)

    trees = come((), 0)
    return refusals if refusals else trees


def some_tree(chance, levels, letters="abc"):
    """A tree of at most 60 places, from the chance that is handed in."""
    while True:
        whole = grown_tree(chance, levels, letters)
        if count(whole) <= 60:
            return whole


def grown_tree(chance, levels, letters):
    kids = chance.choice((0, 1, 1, 2, 2, 3)) if levels > 1 else 0
    return (chance.choice(letters), tuple([grown_tree(chance, levels - 1, letters) for _ in range(kids)]))


def some_pattern(chance, levels, letters="abc"):
    """A pattern, of at most seven parts if it has no more than three levels."""
    while True:
        pattern = grown_pattern(chance, levels, letters)
        if pattern_parts(pattern) <= 7:
            return pattern


def grown_pattern(chance, levels, letters):
    kind = chance.randrange(6)
    if kind == 0:
        return LEAF
    if kind < 3 or levels == 1:
        return ANY
    kids = chance.choice((0, 1, 1, 2, 2, 3))
    return (chance.choice(letters), tuple([grown_pattern(chance, levels - 1, letters) for _ in range(kids)]))


def pattern_parts(pattern):
    return 1 if len(pattern) == 1 else 1 + sum(pattern_parts(kid) for kid in pattern[1])


def pattern_paths(pattern, path=()):
    """The paths of one or two numbers that stand in a pattern of at most three levels."""
    found = [path] if path else []
    for number, kid in enumerate(pattern[1] if len(pattern) == 2 else ()):
        found.extend(pattern_paths(kid, path + (number,)))
    return found


def some_build(chance, levels, states, paths, letters="abc"):
    """A build of at most twelve parts if it has no more than four levels."""
    while True:
        build = grown_build(chance, levels, states, paths, letters)
        if build_parts(build) <= 12:
            return build


def grown_build(chance, levels, states, paths, letters):
    if paths and (levels == 1 or chance.randrange(2)):
        return ("do", chance.randrange(states), chance.choice(paths))
    kids = chance.choice((0, 1, 2, 3)) if levels > 1 else 0
    parts = [grown_build(chance, levels - 1, states, paths, letters) for _ in range(kids)]
    return (chance.choice(letters), tuple(parts))


def build_parts(build):
    return 1 if build[0] == "do" else 1 + sum(build_parts(part) for part in build[1])


def some_spot(chance, letters="abc"):
    return chance.choice((None, None, None, TOP, ("under", chance.choice(letters)), ("kid", chance.randrange(3))))


def some_rule(chance, states):
    pattern = some_pattern(chance, 3)
    build = some_build(chance, 4, states, pattern_paths(pattern))
    return (chance.randrange(states), some_spot(chance), pattern, build)


def some_book(chance):
    """A book of up to sixteen rules, of few states, so that many of them fit."""
    states = chance.choice((1, 1, 2, 3))
    return [some_rule(chance, states) for _ in range(chance.randrange(17))]


def plain_laid(book, whole):
    """What origins tells of a book and a tree of which told tells a tree."""
    standing = dict(places(whole))
    found = []

    def lay(place, at, state):
        numbers = [number for number, rule in enumerate(book) if rule in rules_at(book, standing, at, state)]
        part(place, at, numbers[0], book[numbers[0]][3])

    def part(place, at, number, build):
        if build[0] == "do":
            lay(place, at + build[2], build[1])
        else:
            found.append((place, at, number))
            for kid, below in enumerate(build[1]):
                part(place + (kid,), at, number, below)

    lay((), (), 0)
    return found


def plain_reached(book, whole):
    """The places and states that are reached by the first rules that fit."""
    standing = dict(places(whole))
    found = set()

    def go(place, state):
        if (place, state) not in found:
            found.add((place, state))
            for rule in rules_at(book, standing, place, state)[:1]:
                for _, to, path in dos(rule[3]):
                    go(place + path, to)

    go((), 0)
    return found


def laid_over(whole, place, new):
    """The tree with the new one at the place."""
    if place == ():
        return new
    kids = list(whole[1])
    kids[place[0]] = laid_over(kids[place[0]], place[1:], new)
    return (whole[0], tuple(kids))


def keep(state, label, told, *states):
    """A rule that keeps shape: the label over as many kids as states is told as the other label over theirs."""
    return (state, None, (label, (ANY,) * len(states)), (told, tuple([do(to, kid) for kid, to in enumerate(states)])))


def renamed(book, states):
    """The same book by other numbers of states."""
    return [keep(states[rule[0]], rule[2][0], rule[3][0], *[states[do[1]] for do in rule[3][1]]) for rule in book]


def some_keeping(chance, states, steps, told="ab"):
    """A book that keeps shape, with rules for some of these labels and counts of kids."""
    heads = [(state, label, many) for state in range(states) for label, many in steps]
    taken = chance.sample(heads, min(len(heads), chance.randrange(2, 17)))
    return [keep(*head[:2], chance.choice(told), *[chance.randrange(states) for _ in range(head[2])]) for head in taken]


def kept_told(book, state, whole):
    """What a state of a book that keeps shape tells at the root of a tree of any size and depth."""
    for rule in book:
        if rule[0] == state and rule[2][0] == whole[0] and len(rule[2][1]) == len(whole[1]):
            kids = [kept_told(book, do[1], kid) for do, kid in zip(rule[3][1], whole[1])]
            return None if None in kids else (rule[3][0], tuple(kids))
    return None


def trees_of(steps, most):
    """All trees of at most so many places over these labels and counts of kids: the least first."""
    by_count = [[]]
    for many in range(1, most + 1):
        rows = []
        for label, kids in steps:
            for split in itertools.product(range(1, many), repeat=kids):
                if 1 + sum(split) == many:
                    rows.extend([(label, row) for row in itertools.product(*[by_count[one] for one in split])])
        by_count.append(sorted(set(rows)))
    return [whole for rows in by_count for whole in rows]


def plain_least(one, other, wanted, most=60):
    """The least tree whose kind is wanted, found from the leaves up; False if there are too many kinds to go over.

    The kind of a tree is which states of each book tell anything of it, and which two of them tell the same. All
    that matters of a kid is its kind, so of each kind the least tree is enough.
    """
    steps = sorted({(rule[2][0], len(rule[2][1])) for rule in one + other})
    least = {}
    news = True
    while news:
        news = False
        for label, kids in steps:
            for row in itertools.product(list(least), repeat=kids):
                kind = kind_over(heads(one, label, kids), heads(other, label, kids), row)
                found = (1 + sum(least[kid][0] for kid in row), (label, tuple([least[kid][1] for kid in row])))
                if kind not in least or found < least[kind]:
                    least[kind] = found
                    news = True
        if len(least) > most:
            return False
    rows = [found for kind, found in least.items() if wanted(*kind)]
    return min(rows)[1] if rows else None


def heads(book, label, kids):
    """What each state of a book that keeps shape tells of this label and count, and its kids' states."""
    found = {}
    for state, _, pattern, build in book:
        if pattern == (label, (ANY,) * kids):
            found[state] = (build[0], [part[1] for part in build[1]])
    return found


def kind_over(ones, others, row):
    """The states of the one and of the other that tell anything over kids of these kinds, and the pairs alike."""
    tells_one = [p for p in ones if all(to in kid[0] for to, kid in zip(ones[p][1], row))]
    tells_other = [q for q in others if all(to in kid[1] for to, kid in zip(others[q][1], row))]
    alike = []
    for p, q in itertools.product(tells_one, tells_other):
        below = zip(ones[p][1], others[q][1], row)
        if ones[p][0] == others[q][0] and all((to, beside) in kid[2] for to, beside, kid in below):
            alike.append((p, q))
    return frozenset(tells_one), frozenset(tells_other), frozenset(alike)


SIGNS = "".join([chr(number) for number in range(32, 127) if chr(number) != "%"]) + "\n"
LABELLED = re.compile("[a-f]")
NOTHING = re.compile("(?!)")


def first_bad(text, bare=NOTHING):
    """The first sign with which no text of labels and bare parts goes on; None for such a text."""
    depth, at, wanted = 0, 0, True
    while at < len(text):
        if wanted:
            part = bare.match(text, at)
            if part is None and LABELLED.match(text, at) is None:
                return at
            at = part.end() if part else at + 1
            wanted = part is None and text[at : at + 1] == "("
            if wanted:
                depth, at = depth + 1, at + 1
        elif depth and text[at] == ",":
            at, wanted = at + 1, True
        elif depth and text[at] == ")":
            at, depth = at + 1, depth - 1
        else:
            return at
    return at if wanted or depth else None


def all_changed(text, signs=SIGNS):
    """The text with one sign left out, put in, or changed for another one, at each place."""
    texts = [text[:at] + text[at + 1 :] for at in range(len(text))]
    texts += [text[:at] + sign + text[at:] for at in range(len(text) + 1) for sign in signs]
    return texts + [text[:at] + sign + text[at + 1 :] for at in range(len(text)) for sign in signs]
