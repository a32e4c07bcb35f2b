"""[1] Nothing that is handed in is changed or kept, what is told may be changed, the same is told again."""

import copy
import unittest

from helping import ANY, LEAF, TOP, chain, do, tree
from treetellers.errors import TellError
from treetellers.telling import all_told, told
from treetellers.walks import made, sets_at, walked

BOOK = [
    (0, TOP, tree("a", ANY, tree("b", LEAF)), tree("c", do(1, 0), do(1, 1, 0), do(1, 0))),
    (0, None, ANY, tree("d")),
    (1, ("kid", 0), LEAF, tree("e")),
    (1, ("under", "a"), tree("a"), tree("f")),
]
WHOLE = tree("a", tree("a"), tree("b", tree("c")))


class Kept(unittest.TestCase):
    def test_the_book_handed_in_is_as_it_was(self):
        book = list(BOOK)
        walk = made(book)
        before = copy.deepcopy(walk)
        told(book, WHOLE)
        all_told(book, WHOLE)
        sets_at(book, WHOLE)
        walked(book, walk, WHOLE)
        self.assertEqual(book, BOOK)
        self.assertEqual(walk, before)

    def test_what_is_refused_changes_nothing(self):
        double = [(0, None, LEAF, tree("c")), (0, None, tree("a", ANY), tree("b", do(0, 0), do(0, 0)))]
        for book, whole in ((BOOK + [None], WHOLE), (list(BOOK), ("g", ())), (double, chain("a", 12))):
            before = list(book)
            for call in (told, all_told):
                self.assertRaises(TellError, call, book, whole)
                self.assertEqual(book, before)
        self.assertEqual(told(BOOK, WHOLE), tree("c", tree("e"), tree("e"), tree("e")))

    def test_the_book_may_be_changed_later(self):
        book = list(BOOK)
        walk = made(book)
        first, many, sets = told(book, WHOLE), all_told(book, WHOLE), sets_at(book, WHOLE)
        before = copy.deepcopy((walk, first, many, sets))
        book.clear()
        self.assertIsNone(told(book, WHOLE))
        self.assertEqual((walk, first, many, sets), before)
        self.assertEqual(told(BOOK, WHOLE), first)

    def test_what_is_told_may_be_changed(self):
        for call in (all_told, sets_at):
            once = call(BOOK, WHOLE)
            before = list(once)
            self.assertGreater(len(once), 1)
            once.reverse()
            once.append("x")
            once[0] = None
            self.assertEqual(call(BOOK, WHOLE), before)
        self.assertEqual(all_told([], WHOLE), [])
        all_told([], WHOLE).append("x")
        self.assertEqual(all_told([], WHOLE), [])

    def test_what_made_told_may_be_changed(self):
        for book in (BOOK, []):
            walk = made(book)
            before = copy.deepcopy(walk)
            kept = copy.deepcopy(walk)
            for part in walk:
                part.reverse()
                part.append("x")
                part[0] = None
            self.assertEqual(made(book), before)
            self.assertEqual(walked(book, kept, WHOLE), told(book, WHOLE))

    def test_asked_again_the_same_is_told(self):
        walk = made(BOOK)
        for _ in range(3):
            self.assertEqual(told(BOOK, WHOLE), tree("c", tree("e"), tree("e"), tree("e")))
            rows = all_told(BOOK, WHOLE)
            self.assertEqual(rows, all_told(BOOK, WHOLE))
            self.assertEqual(sets_at(BOOK, WHOLE), sets_at(BOOK, WHOLE))
            self.assertEqual(made(BOOK), walk)
            self.assertEqual(walked(BOOK, walk, WHOLE), told(BOOK, WHOLE))
            told(BOOK, tree("f"))
            told([], WHOLE)


if __name__ == "__main__":
    unittest.main()
