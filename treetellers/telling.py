"""Telling: what comes of a tree by the first rules that fit, and by any."""

from treetellers.errors import TooBig, TooMany
from treetellers.forms import MOST_RULES, at_spot, check_book, pattern_fits, places_of

MOST_TREES = 60
MOST_PARTS = 400


def told(book, tree):
    """What comes at the root by state 0 if the first rule that fits is taken; None if nothing does."""
    check_book(book)
    standing = places_of(tree)
    return first_told(fitting_rules(book, standing))


def all_told(book, tree):
    """All that may come at the root by state 0 if any rule that fits is taken, rising."""
    check_book(book)
    standing = places_of(tree)
    return trees_at_root(fitting_rules(book, standing), MOST_RULES)


def first_told(fitting):
    """What told tells, where for each place the rules are known whose spot and pattern fit."""
    trees = trees_at_root(fitting, 1)
    return trees[0] if trees else None


def fitting_rules(book, standing):
    """For each place the rules whose spot and pattern fit there, whatever their state."""
    return {place: [rule for rule in book if rule_fits(rule, place, standing)] for place in standing}


def rule_fits(rule, place, standing):
    """Whether the rule's spot and pattern fit at the place."""
    return at_spot(rule[1], place, standing) and pattern_fits(rule[2], standing[place])


def trees_at_root(fitting, most):
    """The trees that come at the root by state 0 if up to so many rules are taken at each place and state."""
    taken = taken_rules(fitting, most)
    known = {}
    # A do leads downward only, so whatever a place needs is known once all deeper ones are.
    for place, state in sorted(taken, key=lambda at: -len(at[0])):
        known[place, state] = sized_trees(taken[place, state], place, known)
    return [tree for tree, _ in known[(), 0]]


def taken_rules(fitting, most):
    """The reached places and states, each with the rules that are taken there, at most so many."""
    taken = {}
    waiting = [((), 0)]
    while waiting:
        at = waiting.pop()
        if at not in taken:
            place, state = at
            taken[at] = [rule for rule in fitting[place] if rule[0] == state][:most]
            for rule in taken[at]:
                waiting.extend([gone_to(do, place) for do in dos_of(rule[3])])
    return taken


def dos_of(build):
    """The dos of a build, in turn, each as often as it stands there."""
    if build[0] == "do":
        return [build]
    return [do for part in build[1] for do in dos_of(part)]


def gone_to(do, place):
    """The place and the state to which a do goes from the place."""
    _, state, path = do
    return place + path, state


def sized_trees(rules, place, known):
    """The trees that come of these rules at the place, rising, each once, with their counts of parts."""
    rows = []
    for rule in rules:
        # Each choice for the dos gives a tree of its own, so the choices are counted ahead of laying any.
        ways = ways_of(rule[3], place, known)
        if ways > MOST_TREES:
            raise TooMany("a rule tells too many trees")
        if ways:
            rows.extend(laid(rule[3], place, known))
    rows = each_once(sorted(rows))
    if len(rows) > MOST_TREES:
        raise TooMany("the rules tell too many trees")
    if any([parts > MOST_PARTS for _, parts in rows]):
        raise TooBig("a tree has too many parts")
    return rows


def ways_of(build, place, known):
    """In how many ways the dos of a build may come out at the place."""
    ways = 1
    for do in dos_of(build):
        ways *= len(known[gone_to(do, place)])
    return ways


def laid(build, place, known):
    """All that the build comes to at the place, each with its count of parts."""
    if build[0] == "do":
        return known[gone_to(build, place)]
    label, parts = build
    rows = [((), 1)]
    for part in parts:
        more = laid(part, place, known)
        rows = [(kids + (kid,), count + added) for kids, count in rows for kid, added in more]
    return [((label, kids), count) for kids, count in rows]


def each_once(rows):
    """Sorted rows without those that are like the one ahead."""
    # Trees may be nested too deep for keys of a dict, so equal ones are found side by side.
    once = []
    for row in rows:
        if not once or once[-1] != row:
            once.append(row)
    return once
