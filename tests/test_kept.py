"""[1] Nothing that is handed in is changed or kept, what is told may be changed, the same is told again."""

import copy
import unittest

from helping import ANY, LEAF, TOP, chain, do, keep, tree
from treetellers.anew import Teller
from treetellers.errors import TellError
from treetellers.keeping import accepted, closed, parted, shows
from treetellers.notes import read, read_rules, written, written_rules
from treetellers.origins import comes_of, origins
from treetellers.telling import all_told, told
from treetellers.walks import made, sets_at, walked

BOOK = [
    (0, TOP, tree("a", ANY, tree("b", LEAF)), tree("c", do(1, 0), do(1, 1, 0), do(1, 0))),
    (0, None, ANY, tree("d")),
    (1, ("kid", 0), LEAF, tree("e")),
    (1, ("under", "a"), tree("a"), tree("f")),
]
WHOLE = tree("a", tree("a"), tree("b", tree("c")))
KEEPING = [keep(0, "a", "b", 1, 2), keep(1, "c", "d"), keep(2, "c", "f"), keep(1, "a", "e", 0)]
OTHER = [keep(0, "a", "b", 2, 1), keep(2, "c", "d"), keep(1, "c", "f"), keep(2, "a", "e", 0)]


def all_calls(book, keeping, other, pairs):
    """Everything but the teller, told of one book, of two that keep shape, and of pairs of states."""
    return [
        lambda: told(book, WHOLE),
        lambda: all_told(book, WHOLE),
        lambda: sets_at(book, WHOLE),
        lambda: made(book),
        lambda: walked(book, made(book), WHOLE),
        lambda: origins(book, WHOLE),
        lambda: comes_of(book, WHOLE, (0,)),
        lambda: Teller(book, WHOLE).change((), tree("a", tree("b"))),
        lambda: accepted(keeping, 0),
        lambda: parted(keeping, other),
        lambda: parted(keeping, other[1:]),
        lambda: shows(keeping, other, pairs),
        lambda: closed(keeping, other),
        lambda: written(WHOLE),
        lambda: read("a(a,b(c))"),
        lambda: written_rules(book),
        lambda: read_rules("0 - a(?) b(1:0)\n1 top ? c"),
    ]


class Kept(unittest.TestCase):
    def test_the_book_handed_in_is_as_it_was(self):
        book = list(BOOK)
        walk = made(book)
        before = copy.deepcopy(walk)
        told(book, WHOLE)
        all_told(book, WHOLE)
        sets_at(book, WHOLE)
        walked(book, walk, WHOLE)
        self.assertEqual(book, BOOK)
        self.assertEqual(walk, before)

    def test_all_that_is_handed_in_is_as_it_was(self):
        self.stays([list(BOOK), list(KEEPING), list(OTHER), [(0, 0), (1, 2), (2, 1), (0, 0)]])

    def test_what_is_refused_is_as_it_was(self):
        self.stays([[BOOK[0], None], [KEEPING[0], None], [OTHER[0], BOOK[0]], [(0, 0), (0, 6)]])
        self.stays([list(BOOK), list(KEEPING), [OTHER[0], BOOK[0]], [(0, 0), (0, 6)]])
        self.stays([list(BOOK), list(KEEPING), list(OTHER), [(0, 0), (0, 6)]])

    def stays(self, things):
        before = copy.deepcopy(things)
        for call in all_calls(*things):
            try:
                call()
            except TellError:
                pass
            self.assertEqual(things, before)

    def test_what_is_refused_changes_nothing(self):
        double = [(0, None, LEAF, tree("c")), (0, None, tree("a", ANY), tree("b", do(0, 0), do(0, 0)))]
        for book, whole in ((BOOK + [None], WHOLE), (list(BOOK), ("g", ())), (double, chain("a", 12))):
            before = list(book)
            for call in (told, all_told):
                self.assertRaises(TellError, call, book, whole)
                self.assertEqual(book, before)
        self.assertEqual(told(BOOK, WHOLE), tree("c", tree("e"), tree("e"), tree("e")))

    def test_the_book_may_be_changed_later(self):
        book = list(BOOK)
        walk = made(book)
        first, many, sets = told(book, WHOLE), all_told(book, WHOLE), sets_at(book, WHOLE)
        before = copy.deepcopy((walk, first, many, sets))
        book.clear()
        self.assertIsNone(told(book, WHOLE))
        self.assertEqual((walk, first, many, sets), before)
        self.assertEqual(told(BOOK, WHOLE), first)

    def test_what_is_told_may_be_changed(self):
        for call in (all_told, sets_at):
            once = call(BOOK, WHOLE)
            before = list(once)
            self.assertGreater(len(once), 1)
            once.reverse()
            once.append("x")
            once[0] = None
            self.assertEqual(call(BOOK, WHOLE), before)
        self.assertEqual(all_told([], WHOLE), [])
        all_told([], WHOLE).append("x")
        self.assertEqual(all_told([], WHOLE), [])

    def test_all_told_lists_may_be_changed(self):
        lists = 0
        for call in all_calls(BOOK, KEEPING, OTHER, [(0, 0), (1, 2), (2, 1)]):
            once = call()
            before = copy.deepcopy(once)
            if isinstance(once, list):
                lists += 1
                once.reverse()
                once.append("x")
                once[0] = None
            self.assertEqual(call(), before)
        self.assertEqual(lists, 7)
        for empty in (lambda: comes_of([], WHOLE, ()), lambda: read_rules("")):
            empty().append("x")
            self.assertEqual(empty(), [])

    def test_what_made_told_may_be_changed(self):
        for book in (BOOK, []):
            walk = made(book)
            before = copy.deepcopy(walk)
            kept = copy.deepcopy(walk)
            for part in walk:
                part.reverse()
                part.append("x")
                part[0] = None
            self.assertEqual(made(book), before)
            self.assertEqual(walked(book, kept, WHOLE), told(book, WHOLE))

    def test_asked_again_the_same_is_told(self):
        walk = made(BOOK)
        for _ in range(3):
            self.assertEqual(told(BOOK, WHOLE), tree("c", tree("e"), tree("e"), tree("e")))
            rows = all_told(BOOK, WHOLE)
            self.assertEqual(rows, all_told(BOOK, WHOLE))
            self.assertEqual(sets_at(BOOK, WHOLE), sets_at(BOOK, WHOLE))
            self.assertEqual(made(BOOK), walk)
            self.assertEqual(walked(BOOK, walk, WHOLE), told(BOOK, WHOLE))
            told(BOOK, tree("f"))
            told([], WHOLE)

    def test_asked_again_with_other_calls_between_the_same_is_told(self):
        calls = all_calls(BOOK, KEEPING, OTHER, [(0, 0), (1, 2), (2, 1)])
        first = [call() for call in calls]
        others = all_calls(KEEPING, OTHER, KEEPING[:2], [(0, 0)])
        for call in calls + others + calls[::-1] + others[::-1]:
            call()
        self.assertEqual([call() for call in calls], first)
        self.assertEqual([call() for call in calls[::-1]], first[::-1])

    def test_what_is_told_in_these_tests(self):
        pairs = [(0, 0), (1, 2), (2, 1)]
        self.assertIs(shows(KEEPING, OTHER, pairs), True)
        self.assertEqual(closed(KEEPING, OTHER), pairs)
        self.assertIsNone(parted(KEEPING, OTHER))
        self.assertIsNotNone(parted(KEEPING, OTHER[1:]))
        self.assertEqual(accepted(KEEPING, 0), tree("a", tree("c"), tree("c")))
        self.assertEqual(comes_of(BOOK, WHOLE, (0,)), [(0,), (2,)])


if __name__ == "__main__":
    unittest.main()
