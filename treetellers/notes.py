"""Trees and books as texts."""

from treetellers.errors import BadText
from treetellers.forms import ANY, LEAF, LETTERS, TOP, check_book, places_of

FIGURES = ("0", "1", "2", "3", "4", "5", "6", "7", "8", "9")


def written(tree):
    """The text of a tree."""
    places_of(tree)
    return part_text(tree)


def read(text):
    """The tree that the text tells."""
    tree = whole_read(text, nothing_bare)
    places_of(tree)
    return tree


def written_rules(book):
    """The text of a book."""
    check_book(book)
    return "\n".join([rule_text(rule) for rule in book])


def read_rules(text):
    """The book that the text tells."""
    rows = text.split("\n") if text else []
    book = [rule_read(row, number) for number, row in enumerate(rows)]
    check_book(book)
    return book


def part_text(part):
    """The text of a tree, a pattern or a build."""
    if part == ANY:
        return "?"
    if part == LEAF:
        return "."
    if part[0] == "do":
        _, state, path = part
        return f"{state}:" + ".".join([str(number) for number in path])
    label, kids = part
    return label + "(" + ",".join([part_text(kid) for kid in kids]) + ")" if kids else label


def rule_text(rule):
    """The row of a rule."""
    state, spot, pattern, build = rule
    return " ".join([str(state), spot_text(spot), part_text(pattern), part_text(build)])


def spot_text(spot):
    """The word of a spot."""
    if spot is None:
        return "-"
    return ":".join([str(word) for word in spot])


def rule_read(row, number):
    """The rule that the row with this number tells."""
    words = row.split(" ")
    spots = spots_by_text()
    if len(words) != 4 or words[0] not in FIGURES or words[1] not in spots:
        raise BadText(number)
    try:
        return int(words[0]), spots[words[1]], whole_read(words[2], bare_read), whole_read(words[3], do_read)
    except BadText:
        raise BadText(number) from None


def spots_by_text():
    """Each word that is a spot by its form, with the spot."""
    spots = {"-": None, "top": TOP}
    for letter in LETTERS:
        spots["under:" + letter] = ("under", letter)
    for figure in FIGURES:
        spots["kid:" + figure] = ("kid", int(figure))
    return spots


def whole_read(text, bare):
    """What the text tells: labels over labels and what `bare` reads; BadText with the first sign that can't be."""
    # A text may be nested far deeper than a tree, so what is open waits in lists: the labels whose brackets are
    # open, and the kids of each of these, behind what stands outside of all brackets.
    labels = []
    rows = [[]]
    at = 0
    ends = False
    while not ends:
        at = opened(text, at, labels, rows)
        at = ended(text, at, bare, rows)
        at = shut(text, at, labels, rows)
        ends = not labels
        if not ends:
            if text[at : at + 1] != ",":
                raise BadText(at)
            at += 1
    if at < len(text):
        raise BadText(at)
    return rows[0][0]


def opened(text, at, labels, rows):
    """Opens the brackets of all labels that have some from this sign on; the number of the sign behind them."""
    while text[at : at + 1] in LETTERS and text[at + 1 : at + 2] == "(":
        labels.append(text[at])
        rows.append([])
        at += 2
    return at


def ended(text, at, bare, rows):
    """Reads what has no brackets and begins with this sign; the number of the sign behind it."""
    if text[at : at + 1] in LETTERS:
        rows[-1].append((text[at], ()))
        return at + 1
    part, many = bare(text, at)
    if not many:
        raise BadText(at)
    rows[-1].append(part)
    return at + many


def shut(text, at, labels, rows):
    """Closes all brackets that are closed from this sign on; the number of the sign behind them."""
    while labels and text[at : at + 1] == ")":
        kids = tuple(rows.pop())
        rows[-1].append((labels.pop(), kids))
        at += 1
    return at


def nothing_bare(text, at):
    """A tree has nothing but labels."""
    return None, 0


def bare_read(text, at):
    """What of a pattern without a label stands at this sign, and how many signs it has; none if none stands there."""
    bare = {"?": ANY, ".": LEAF}
    sign = text[at : at + 1]
    return (bare[sign], 1) if sign in bare else (None, 0)


def do_read(text, at):
    """The do that stands at this sign, and how many signs it has; none if none stands there."""
    many = 5 if text[at + 3 : at + 4] == "." else 3
    signs = text[at : at + many]
    if len(signs) < many or signs[1] != ":" or not all([sign in FIGURES for sign in signs[::2]]):
        return None, 0
    state, *path = [int(sign) for sign in signs[::2]]
    return ("do", state, tuple(path)), many
