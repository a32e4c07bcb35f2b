"""[10] origins and comes_of."""

import random
import unittest

from helping import ANY, LEAF, TOP, chain, do, places, plain_laid, plain_told, some_book, some_tree, tree
from treetellers.errors import BadBook, BadPlace, BadTree, TooBig
from treetellers.origins import comes_of, origins
from treetellers.telling import told

# Copies the third kid, drops the second one and turns the others about.
TURNS = [
    (0, TOP, tree("a", ANY, ANY, ANY), tree("b", do(0, 2), do(0, 0), do(0, 2))),
    (0, None, tree("c", ANY), tree("d", tree("e"), do(0, 0))),
    (0, None, LEAF, tree("f")),
]
WHOLE = tree("a", tree("b"), tree("d", tree("a")), tree("c", tree("a")))

DOUBLE = [(0, None, LEAF, tree("c")), (0, None, tree("a", ANY), tree("b", do(0, 0), do(0, 0)))]


class Origins(unittest.TestCase):
    def test_none_where_told_tells_none(self):
        self.assertIsNone(origins([], tree("a")))
        self.assertIsNone(origins([(1, None, ANY, tree("a"))], tree("a")))
        self.assertIsNone(origins([(0, TOP, tree("a", ANY), tree("b", tree("c"), do(0, 0)))], tree("a", tree("b"))))

    def test_all_parts_of_one_build(self):
        book = [(0, None, LEAF, tree("f")), (0, None, ANY, tree("a", tree("b", tree("c")), tree("d")))]
        wanted = [((), (), 1), ((0,), (), 1), ((0, 0), (), 1), ((1,), (), 1)]
        self.assertEqual(origins(book, tree("a", tree("b"))), wanted)

    def test_copied_dropped_and_turned_about(self):
        wanted = [
            ((), (), 0),
            ((0,), (2,), 1),
            ((0, 0), (2,), 1),
            ((0, 1), (2, 0), 2),
            ((1,), (0,), 2),
            ((2,), (2,), 1),
            ((2, 0), (2,), 1),
            ((2, 1), (2, 0), 2),
        ]
        self.assertEqual(origins(TURNS, WHOLE), wanted)

    def test_a_part_is_laid_by_the_rule_of_the_do_and_not_by_the_one_that_went_there(self):
        book = [
            (1, None, LEAF, tree("e")),
            (0, TOP, tree("a", tree("b", ANY)), tree("c", do(1, 0, 0), do(2, 0))),
            (2, None, ANY, tree("d", tree("f"))),
        ]
        wanted = [((), (), 1), ((0,), (0, 0), 0), ((1,), (0,), 2), ((1, 0), (0,), 2)]
        self.assertEqual(origins(book, tree("a", tree("b", tree("b")))), wanted)

    def test_a_do_as_the_whole_build(self):
        book = [
            (0, TOP, tree("a", ANY), do(1, 0)),
            (1, None, tree("b", ANY), do(2, 0)),
            (2, None, ANY, tree("c", tree("d"))),
        ]
        wanted = [((), (0, 0), 2), ((0,), (0, 0), 2)]
        self.assertEqual(origins(book, tree("a", tree("b", tree("f")))), wanted)

    def test_the_first_rule_that_fits_of_several_that_are_alike(self):
        one = (0, None, ANY, tree("a"))
        self.assertEqual(origins([(0, None, tree("b"), tree("b")), one, one, one], tree("c")), [((), (), 1)])
        other = [(0, None, tree("a", ANY), do(0, 0)), (0, None, LEAF, tree("d")), one]
        self.assertEqual(origins(other, chain("a", 3)), [((), (0, 0), 1)])

    def test_the_rule_by_the_state(self):
        book = [(state, None, LEAF, tree("b")) for state in (5, 4, 3, 2, 1)]
        book.append((0, None, tree("a", ANY), tree("c", do(3, 0), do(1, 0), do(5, 0))))
        wanted = [((), (), 5), ((0,), (0,), 2), ((1,), (0,), 4), ((2,), (0,), 0)]
        self.assertEqual(origins(book, tree("a", tree("f"))), wanted)

    def test_rules_and_places_of_many_numbers(self):
        book = [(1, None, ANY, tree("a"))] * 14 + [(0, None, tree("a", ANY), tree("b", do(0, 0)))]
        book.append((0, None, LEAF, tree("c")))
        wanted = [((0,) * level, (0,) * level, 14) for level in range(11)] + [((0,) * 11, (0,) * 11, 15)]
        self.assertEqual(origins(book, chain("a", 12)), wanted)

    def test_told_is_deeper_than_trees_handed_in(self):
        book = [(0, None, tree("a", ANY), chain("b", 3, do(0, 0))), (0, None, LEAF, chain("c", 4))]
        rows = origins(book, chain("a", 12))
        self.assertEqual([place for place, _, _ in rows], [(0,) * level for level in range(37)])
        self.assertEqual([at for _, at, _ in rows], [(0,) * (level // 3) for level in range(36)] + [(0,) * 11])
        self.assertEqual([number for _, _, number in rows], [0] * 33 + [1] * 4)

    def test_too_big_just_as_told(self):
        self.assertEqual(len(origins(DOUBLE, chain("a", 8))), 255)
        self.assertRaises(TooBig, origins, DOUBLE, chain("a", 9))
        top = (0, TOP, tree("a", ANY, ANY), tree("b", do(0, 0), do(1, 1)))
        self.assertIsNone(origins([top] + DOUBLE, tree("a", chain("a", 8), tree("a"))))
        self.assertRaises(TooBig, origins, [top] + DOUBLE, tree("a", chain("a", 9), tree("a")))

    def test_alike_with_a_plain_telling(self):
        chance = random.Random(10)
        trees = 0
        for _ in range(2500):
            book, whole = some_book(chance), some_tree(chance, 5)
            wanted = plain_told(book, whole)
            if wanted is TooBig:
                self.assertRaises(TooBig, origins, book, whole)
            elif wanted is None:
                self.assertIsNone(origins(book, whole))
            else:
                trees += 1
                rows = origins(book, whole)
                self.assertEqual(rows, plain_laid(book, whole))
                self.assertEqual([place for place, _, _ in rows], [place for place, _ in places(told(book, whole))])
        self.assertGreater(trees, 300)


class ComesOf(unittest.TestCase):
    def test_each_place(self):
        wanted = {(): [()], (0,): [(1,)], (2,): [(0,), (0, 0), (2,), (2, 0)], (2, 0): [(0, 1), (2, 1)]}
        for place, _ in places(WHOLE):
            self.assertEqual(comes_of(TURNS, WHOLE, place), wanted.get(place, []))

    def test_places_of_which_nothing_comes(self):
        # (1,) and (1, 0) are dropped.
        self.assertEqual(comes_of(TURNS, WHOLE, (1,)), [])
        self.assertEqual(comes_of(TURNS, WHOLE, (1, 0)), [])
        book = [(0, TOP, tree("a", ANY), do(1, 0)), (1, None, ANY, tree("b"))]
        self.assertEqual(comes_of(book, tree("a", tree("c")), ()), [])
        self.assertEqual(comes_of(book, tree("a", tree("c")), (0,)), [()])

    def test_an_empty_list_where_told_tells_none(self):
        whole = tree("a", tree("b"))
        for place in ((), (0,)):
            self.assertEqual(comes_of([], whole, place), [])
            self.assertEqual(comes_of([(0, None, tree("a", ANY), tree("b", do(0, 0)))], whole, place), [])

    def bad(self, book, whole, place):
        self.assertRaises(BadPlace, comes_of, book, whole, place)

    def test_places_that_there_are_not(self):
        others = [(3,), (0, 0), (1, 1), (1, 0, 0), (2, 1), (-1,), (2, -1), (10**19,), (0,) * 12, (0,) * 90, (2, 0, 0)]
        others += [(True,), (False,), (2, False), ("0",), (None,), ((),), ((0,),), "", "0", 0, None]
        for place in others:
            self.bad(TURNS, WHOLE, place)

    def test_also_where_nothing_is_told(self):
        for place in ((0,), (0, 0), (-1,)):
            self.bad([], tree("a"), place)

    def test_also_where_too_big(self):
        big = chain("a", 9)
        for place in ((1,), (0,) * 9, (0,) * 7 + (1,)):
            self.bad(DOUBLE, big, place)
        for place, _ in places(big):
            self.assertRaises(TooBig, comes_of, DOUBLE, big, place)

    def test_behind_bad_book_and_bad_tree(self):
        self.assertRaises(BadBook, comes_of, [None], ("g", ()), (7,))
        with self.assertRaises(BadTree) as caught:
            comes_of([], tree("a", tree("b"), ("g", ())), (7,))
        self.assertEqual(caught.exception.place, (1,))

    def test_the_places_of_all_places_are_all_parts(self):
        chance = random.Random(11)
        for _ in range(300):
            book, whole = some_book(chance), some_tree(chance, 4)
            if plain_told(book, whole) not in (None, TooBig):
                rows = plain_laid(book, whole)
                for at, _ in places(whole):
                    wanted = [place for place, from_place, _ in rows if from_place == at]
                    self.assertEqual(comes_of(book, whole, at), wanted)


if __name__ == "__main__":
    unittest.main()
