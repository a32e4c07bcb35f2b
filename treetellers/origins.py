"""What comes of which place of a tree, and by which rule."""

from treetellers.forms import check_book, check_place, places_of
from treetellers.telling import first_told, fitting_rules, gone_to, taken_rules


def origins(book, tree):
    """For each part of what is told, in turn, its place, the tree's place and the rule's number; None for nothing."""
    check_book(book)
    return laid_parts(book, places_of(tree))


def comes_of(book, tree, place):
    """The places of what is told that come of the place of the tree, in turn."""
    check_book(book)
    standing = places_of(tree)
    check_place(place, standing)
    rows = laid_parts(book, standing)
    return [] if rows is None else [laid for laid, at, _ in rows if at == place]


def laid_parts(book, standing):
    """What origins tells, of the tree whose places stand."""
    fitting = fitting_rules(book, standing)
    if first_told(fitting) is None:
        return None
    taken = taken_rules(fitting, 1)
    rows = []
    # What comes at the root by state 0 is what a do with no way to go would ask for; no rule laid that do.
    waiting = [((), ("do", 0, ()), (), None)]
    while waiting:
        place, part, at, number = waiting.pop()
        if part[0] == "do":
            gone = gone_to(part, at)
            rule = taken[gone][0]
            # Of rules that are alike the first one fits first, and that is the one that index finds.
            waiting.append((place, rule[3], gone[0], book.index(rule)))
        else:
            rows.append((place, at, number))
            parts = part[1]
            # The last one is taken first from what waits, so the first kid must be put there last.
            for kid in reversed(range(len(parts))):
                waiting.append((place + (kid,), parts[kid], at, number))
    return rows
