"""What trees and books are, and which patterns and spots fit where."""

from treetellers.errors import BadBook, BadPlace, BadTree

LETTERS = ("a", "b", "c", "d", "e", "f")
ANY = ("any",)
LEAF = ("leaf",)
TOP = ("top",)
MOST_KIDS = 3
MOST_STATE = 5
MOST_RULES = 16
MOST_PLACES = 60
# A place below n others stands on level n + 1: the document bounds what is above, the code counts levels.
TREE_LEVELS = 12
MOST_PATTERN_PARTS = 7
PATTERN_LEVELS = 3
MOST_BUILD_PARTS = 12
BUILD_LEVELS = 4
MOST_PATH = 2


def is_number(thing, most):
    """Whether this is a whole number from 0 to the one told."""
    return isinstance(thing, int) and not isinstance(thing, bool) and 0 <= thing <= most


def has_form(thing):
    """Whether this is a label and a tuple of at most three, whatever stands in that."""
    if not isinstance(thing, tuple) or len(thing) != 2:
        return False
    label, kids = thing
    return label in LETTERS and isinstance(kids, tuple) and len(kids) <= MOST_KIDS


def places_of(tree):
    """Each place of the tree, in turn, with the tree that stands there; BadTree if it is none."""
    standing = {}
    waiting = [((), tree)]
    while waiting:
        place, here = waiting.pop()
        if len(standing) == MOST_PLACES or len(place) >= TREE_LEVELS or not has_form(here):
            raise BadTree(place)
        standing[place] = here
        kids = here[1]
        # The last one is taken first from what waits, so the first kid must be put there last.
        for number in reversed(range(len(kids))):
            waiting.append((place + (number,), kids[number]))
    return standing


def check_place(place, standing):
    """Refuses what is none of the places that stand."""
    # True and False would be found as 1 and 0, so that looking the place up is not enough.
    has_form_of_place = isinstance(place, tuple) and all([is_number(kid, MOST_KIDS - 1) for kid in place])
    if not has_form_of_place or place not in standing:
        raise BadPlace("the tree has no such place")


def check_book(book):
    """Refuses what is no book."""
    if not isinstance(book, list):
        raise BadBook(0)
    for number, rule in enumerate(book):
        if number == MOST_RULES or not is_rule(rule):
            raise BadBook(number)


def is_rule(rule):
    """Whether this is a rule."""
    if not isinstance(rule, tuple) or len(rule) != 4:
        return False
    state, spot, pattern, build = rule
    return is_number(state, MOST_STATE) and is_spot(spot) and is_pattern(pattern) and is_build(build, pattern)


def is_spot(spot):
    """Whether this is a spot."""
    if spot is None or spot == TOP:
        return True
    if not isinstance(spot, tuple) or len(spot) != 2:
        return False
    word, wanted = spot
    if word == "under":
        return wanted in LETTERS
    return word == "kid" and is_number(wanted, MOST_KIDS - 1)


def is_within(whole, is_end, most, levels):
    """Whether this is labels over labels and ends, with no more parts and levels than told."""
    parts = 0
    waiting = [(whole, 1)]
    while waiting:
        part, level = waiting.pop()
        parts += 1
        if parts > most or level > levels:
            return False
        if not is_end(part):
            if not has_form(part):
                return False
            waiting.extend([(kid, level + 1) for kid in part[1]])
    return True


def is_bare(part):
    """Whether this is a pattern without a label."""
    return part == ANY or part == LEAF


def is_pattern(pattern):
    """Whether this is a pattern."""
    return is_within(pattern, is_bare, MOST_PATTERN_PARTS, PATTERN_LEVELS)


def is_build(build, pattern):
    """Whether this is a build that can stand beside that pattern."""
    return is_within(build, lambda part: is_do(part, pattern), MOST_BUILD_PARTS, BUILD_LEVELS)


def is_do(part, pattern):
    """Whether this is a do of something that stands in the pattern."""
    if not isinstance(part, tuple) or len(part) != 3:
        return False
    word, state, path = part
    return word == "do" and is_number(state, MOST_STATE) and is_path(path, pattern)


def is_path(path, pattern):
    """Whether this leads to a kid, or a kid's kid, that stands in the pattern."""
    if not isinstance(path, tuple) or not 1 <= len(path) <= MOST_PATH:
        return False
    part = pattern
    for number in path:
        kids = kids_within(part)
        if not is_number(number, len(kids) - 1):
            return False
        part = kids[number]
    return True


def kids_within(pattern):
    """The patterns of the kids, if there are such."""
    return () if is_bare(pattern) else pattern[1]


def pattern_fits(pattern, tree):
    """Whether the pattern fits the tree."""
    if pattern == ANY:
        return True
    label, kids = tree
    if pattern == LEAF:
        return not kids
    wanted, patterns = pattern
    if wanted != label or len(patterns) != len(kids):
        return False
    return all([pattern_fits(part, kid) for part, kid in zip(patterns, kids)])


def at_spot(spot, place, standing):
    """Whether the place, one of those that stand, is at the spot."""
    if spot is None:
        return True
    if spot == TOP:
        return not place
    if not place:
        return False
    word, wanted = spot
    if word == "kid":
        return place[-1] == wanted
    return standing[place[:-1]][0] == wanted
