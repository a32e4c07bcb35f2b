"""What the tests share: short ways to write trees and books, and a plain second telling to compare with."""

import itertools

from treetellers.errors import TooBig, TooMany

ANY = ("any",)
LEAF = ("leaf",)
TOP = ("top",)
NUMBER_KINDS = (-1, 6, 7, 10**19, "0", "", None, (), (0,))


def tree(label, *kids):
    """A tree; patterns and builds with a label are written alike."""
    return (label, kids)


def do(state, *path):
    return ("do", state, path)


def chain(label, count, end=None):
    """So many places, each the only kid of the one ahead, the last one with the end below it."""
    below = () if end is None else (end,)
    for _ in range(count):
        below = ((label, below),)
    return below[0]


def places(whole, place=()):
    """All places, in turn, with what stands there."""
    found = [(place, whole)]
    for number, kid in enumerate(whole[1]):
        found.extend(places(kid, place + (number,)))
    return found


def count(whole):
    return 1 + sum(count(kid) for kid in whole[1])


def fits(pattern, whole):
    if pattern == ANY:
        return True
    if pattern == LEAF:
        return whole[1] == ()
    return pattern[0] == whole[0] and len(pattern[1]) == len(whole[1]) and all(map(fits, pattern[1], whole[1]))


def at_spot(spot, place, standing):
    if spot is None:
        return True
    if spot == TOP:
        return place == ()
    if place == ():
        return False
    if spot[0] == "under":
        return standing[place[:-1]][0] == spot[1]
    return place[-1] == spot[1]


def dos(build):
    if build[0] == "do":
        return [build]
    return [one for part in build[1] for one in dos(part)]


def put(build, trees):
    """The build with these trees laid for its dos, in turn."""
    if build[0] == "do":
        return trees.pop(0)
    return (build[0], tuple([put(part, trees) for part in build[1]]))


def rules_at(book, standing, place, state):
    return [
        rule
        for rule in book
        if rule[0] == state and at_spot(rule[1], place, standing) and fits(rule[2], standing[place])
    ]


def plain_told(book, whole):
    """What told tells: a tree, None, or the class of its refusal."""
    standing = dict(places(whole))
    known = {}

    def come(place, state):
        if (place, state) not in known:
            known[place, state] = once(place, rules_at(book, standing, place, state))
        return known[place, state]

    def once(place, rules):
        if not rules:
            return None
        below = [come(place + path, state) for _, state, path in dos(rules[0][3])]
        if None in below:
            return None
        out = put(rules[0][3], below)
        if count(out) > 400:
            raise TooBig("")
        return out

    try:
        return come((), 0)
    except TooBig:
        return TooBig


def plain_all(book, whole):
    """The list that all_told tells, or the set of the refusals of which it may tell one."""
    standing = dict(places(whole))
    known = {}
    refusals = set()

    def come(place, state):
        if (place, state) not in known:
            known[place, state] = once(place, state)
        return known[place, state]

    def once(place, state):
        rules = rules_at(book, standing, place, state)
        below = [[come(place + path, to) for _, to, path in dos(rule[3])] for rule in rules]
        if any(one is None for row in below for one in row):
            return None
        out = set()
        for rule, row in zip(rules, below):
            # An empty row makes the product empty; product itself would go over the others first.
            for choice in itertools.product(*row) if all(row) else ():
                out.add(put(rule[3], list(choice)))
                if len(out) > 60:
                    refusals.add(TooMany)
                    return None
        if any(count(one) > 400 for one in out):
            refusals.add(TooBig)
            return None
        return sorted(out)

    trees = come((), 0)
    return refusals if refusals else trees


def some_tree(chance, levels, letters="abc"):
    """A tree of at most 60 places, from the chance that is handed in."""
    while True:
        whole = grown_tree(chance, levels, letters)
        if count(whole) <= 60:
            return whole


def grown_tree(chance, levels, letters):
    kids = chance.choice((0, 1, 1, 2, 2, 3)) if levels > 1 else 0
    return (chance.choice(letters), tuple([grown_tree(chance, levels - 1, letters) for _ in range(kids)]))


def some_pattern(chance, levels, letters="abc"):
    """A pattern, of at most seven parts if it has no more than three levels."""
    while True:
        pattern = grown_pattern(chance, levels, letters)
        if pattern_parts(pattern) <= 7:
            return pattern


def grown_pattern(chance, levels, letters):
    kind = chance.randrange(6)
    if kind == 0:
        return LEAF
    if kind < 3 or levels == 1:
        return ANY
    kids = chance.choice((0, 1, 1, 2, 2, 3))
    return (chance.choice(letters), tuple([grown_pattern(chance, levels - 1, letters) for _ in range(kids)]))


def pattern_parts(pattern):
    return 1 if len(pattern) == 1 else 1 + sum(pattern_parts(kid) for kid in pattern[1])


def pattern_paths(pattern, path=()):
    """The paths of one or two numbers that stand in a pattern of at most three levels."""
    found = [path] if path else []
    for number, kid in enumerate(pattern[1] if len(pattern) == 2 else ()):
        found.extend(pattern_paths(kid, path + (number,)))
    return found


def some_build(chance, levels, states, paths, letters="abc"):
    """A build of at most twelve parts if it has no more than four levels."""
    while True:
        build = grown_build(chance, levels, states, paths, letters)
        if build_parts(build) <= 12:
            return build


def grown_build(chance, levels, states, paths, letters):
    if paths and (levels == 1 or chance.randrange(2)):
        return ("do", chance.randrange(states), chance.choice(paths))
    kids = chance.choice((0, 1, 2, 3)) if levels > 1 else 0
    parts = [grown_build(chance, levels - 1, states, paths, letters) for _ in range(kids)]
    return (chance.choice(letters), tuple(parts))


def build_parts(build):
    return 1 if build[0] == "do" else 1 + sum(build_parts(part) for part in build[1])


def some_spot(chance, letters="abc"):
    return chance.choice((None, None, None, TOP, ("under", chance.choice(letters)), ("kid", chance.randrange(3))))


def some_rule(chance, states):
    pattern = some_pattern(chance, 3)
    build = some_build(chance, 4, states, pattern_paths(pattern))
    return (chance.randrange(states), some_spot(chance), pattern, build)


def some_book(chance):
    """A book of up to sixteen rules, of few states, so that many of them fit."""
    states = chance.choice((1, 1, 2, 3))
    return [some_rule(chance, states) for _ in range(chance.randrange(17))]
