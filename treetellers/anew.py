"""A teller: a book and a tree whose parts may be changed one behind the other."""

from treetellers.forms import check_book, check_place, places_of
from treetellers.telling import first_told, fitting_rules, taken_rules, told


class Teller:
    """Has a book and a tree, and tells what comes of it as it stands."""

    def __init__(self, book, tree):
        check_book(book)
        places_of(tree)
        self._book = list(book)
        self._tree = tree

    def tree_now(self):
        """The tree as it stands."""
        return self._tree

    def tells(self):
        """What told tells of the tree as it stands."""
        return told(self._book, self._tree)

    def change(self, place, new):
        """Lays the new tree at the place; the places and states, rising, that must be reckoned anew."""
        before = places_of(self._tree)
        check_place(place, before)
        places_of(new)
        whole = with_laid(self._tree, place, new)
        after = places_of(whole)
        fitting = fitting_rules(self._book, after)
        first_told(fitting)
        known = taken_rules(fitting_rules(self._book, before), 1)
        # Nothing may be kept ahead of this line: all that can be refused must be refused above.
        self._tree = whole
        reached = taken_rules(fitting, 1)
        return sorted([at for at in reached if at not in known or not stays(at[0], before, after)])


def with_laid(tree, place, new):
    """The tree with the new one at the place."""
    if not place:
        return new
    label, kids = tree
    number = place[0]
    kid = with_laid(kids[number], place[1:], new)
    return label, kids[:number] + (kid,) + kids[number + 1 :]


def stays(place, before, after):
    """Whether the same tree stands at the place as before, below the same label."""
    return before[place] == after[place] and (not place or before[place[:-1]][0] == after[place[:-1]][0])
