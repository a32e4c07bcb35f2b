"""One walk from the leaves up, that knows which parts of a book fit where."""

from treetellers.errors import TooMany
from treetellers.forms import LETTERS, MOST_KIDS, at_spot, check_book, kids_within, pattern_fits, places_of
from treetellers.telling import first_told

MOST_SETS = 10


def sets_at(book, tree):
    """For each place of the tree, in turn, the rising numbers of the book's parts that fit there."""
    check_book(book)
    standing = places_of(tree)
    parts = parts_of(book)
    return [fitting_parts(parts, standing[place]) for place in standing]


def made(book):
    """The parts, the sets of parts that come at places of trees, and the table that tells a set of the kids'."""
    check_book(book)
    parts = parts_of(book)
    found, steps = found_sets(needs_of(parts))
    sets = sorted(found)
    number_of = [sets.index(one) for one in found]
    table = []
    for (label, row), number in steps.items():
        table.append((label, tuple([number_of[kid] for kid in row]), number_of[number]))
    return parts, sets, sorted(table)


def walked(book, walk, tree):
    """What told tells of the book and the tree, by what made told of the book."""
    check_book(book)
    standing = places_of(tree)
    parts, sets, table = walk
    numbers = {part: number for number, part in enumerate(parts)}
    known = {place: sets[number] for place, number in numbers_up(table, standing).items()}
    fitting = {}
    for place in standing:
        near = [rule for rule in book if at_spot(rule[1], place, standing)]
        fitting[place] = [rule for rule in near if numbers[rule[2]] in known[place]]
    return first_told(fitting)


def parts_of(book):
    """The patterns of all rules and all within them, each once, as they are met first."""
    met = {}
    for rule in book:
        for part in parts_within(rule[2]):
            met[part] = True
    return list(met)


def parts_within(pattern):
    """The pattern and all within it, each ahead of those within it."""
    parts = [pattern]
    for kid in kids_within(pattern):
        parts.extend(parts_within(kid))
    return parts


def fitting_parts(parts, tree):
    """The rising numbers of the parts that fit the tree."""
    return tuple([number for number, part in enumerate(parts) if pattern_fits(part, tree)])


def needs_of(parts):
    """For each part its first word, and the numbers of the parts that its kids must fit."""
    numbers = {part: number for number, part in enumerate(parts)}
    return [(part[0], [numbers[kid] for kid in kids_within(part)]) for part in parts]


def found_sets(needs):
    """The sets that come at places of trees, as they are found, and the set over each label and row of sets."""
    found = []
    steps = {}
    before = -1
    while before < len(found):
        before = len(found)
        for label, row in labelled_rows(before):
            if (label, row) not in steps:
                over = set_over(needs, label, [found[number] for number in row])
                if over not in found:
                    found.append(over)
                steps[label, row] = found.index(over)
                if len(found) > MOST_SETS:
                    raise TooMany("the book has too many sets")
    return found, steps


def labelled_rows(many):
    """Each label with each row of none to three numbers below this one."""
    rows = [()]
    longest = [()]
    for _ in range(MOST_KIDS):
        longest = [row + (number,) for row in longest for number in range(many)]
        rows.extend(longest)
    return [(label, row) for label in LETTERS for row in rows]


def set_over(needs, label, kids):
    """The numbers of the parts that fit where this label stands over kids with these sets."""
    return tuple([number for number, need in enumerate(needs) if need_fits(need, label, kids)])


def need_fits(need, label, kids):
    """Whether a part with this need fits where the label stands over kids with these sets."""
    word, wanted = need
    if word == "any":
        return True
    if word == "leaf":
        return not kids
    if word != label or len(wanted) != len(kids):
        return False
    return all([number in kid for number, kid in zip(wanted, kids)])


def numbers_up(table, standing):
    """For each place the number of its set, by the table, from the leaves up."""
    steps = {(label, row): number for label, row, number in table}
    numbers = {}
    for place in reversed(list(standing)):
        label, kids = standing[place]
        row = tuple([numbers[place + (kid,)] for kid in range(len(kids))])
        numbers[place] = steps[label, row]
    return numbers
