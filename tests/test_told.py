"""[5] Where a rule fits, and [6] told."""

import random
import unittest

from helping import ANY, LEAF, TOP, chain, do, plain_told, some_book, some_tree, tree
from treetellers.errors import TooBig
from treetellers.telling import told

# Tells a tree for each leaf and unary place, twice as much for each a: 2**n - 1 parts for n places of a chain.
DOUBLE = [(1, None, LEAF, tree("c")), (1, None, tree("a", ANY), tree("b", do(1, 0), do(1, 0)))]


def mirror_rules():
    """Turns all kids about."""
    rules = []
    for label in "abcd":
        for many in range(4):
            kids = [do(0, number) for number in reversed(range(many))]
            rules.append((0, None, tree(label, *[ANY] * many), tree(label, *kids)))
    return rules


class Fits(unittest.TestCase):
    def tells(self, spot, pattern, whole):
        return told([(0, spot, pattern, tree("e"))], whole) is not None

    def below(self, spot, pattern, whole, *path):
        """Whether a rule of state 1 with that spot and pattern fits at the kid, or the kid's kid, at the path."""
        many = len(whole[1])
        top = [ANY] * many
        if len(path) == 2:
            top[path[0]] = tree(whole[1][path[0]][0], *[ANY] * len(whole[1][path[0]][1]))
        book = [(0, TOP, tree(whole[0], *top), do(1, *path)), (1, spot, pattern, tree("e"))]
        return told(book, whole) is not None

    def test_any_fits_all(self):
        for whole in (tree("a"), tree("f", tree("b")), tree("c", tree("b"), tree("a"), tree("d", tree("a")))):
            self.assertTrue(self.tells(None, ANY, whole))

    def test_leaf_fits_what_has_no_kids(self):
        for label in "abcdef":
            self.assertTrue(self.tells(None, LEAF, tree(label)))
            self.assertFalse(self.tells(None, LEAF, tree(label, tree("a"))))

    def test_label_fits_that_label_with_as_many_kids(self):
        for many in range(4):
            whole = tree("b", *[tree("a")] * many)
            for wanted in range(4):
                self.assertEqual(self.tells(None, tree("b", *[ANY] * wanted), whole), many == wanted)
                self.assertFalse(self.tells(None, tree("a", *[ANY] * wanted), whole))

    def test_each_kid_must_fit(self):
        whole = tree("a", tree("b"), tree("c", tree("d")))
        self.assertTrue(self.tells(None, tree("a", LEAF, ANY), whole))
        self.assertFalse(self.tells(None, tree("a", LEAF, LEAF), whole))
        self.assertFalse(self.tells(None, tree("a", tree("c"), ANY), whole))
        self.assertTrue(self.tells(None, tree("a", tree("b"), tree("c", ANY)), whole))
        self.assertFalse(self.tells(None, tree("a", tree("b"), tree("c")), whole))

    def test_three_deep(self):
        whole = tree("a", tree("b", tree("c"), tree("d", tree("e"))), tree("f"))
        self.assertTrue(self.tells(None, tree("a", tree("b", LEAF, ANY), ANY), whole))
        self.assertFalse(self.tells(None, tree("a", tree("b", tree("c"), tree("d")), LEAF), whole))
        self.assertFalse(self.tells(None, tree("a", tree("b", ANY, LEAF), ANY), whole))
        self.assertFalse(self.tells(None, tree("a", tree("b", tree("d"), ANY), ANY), whole))
        self.assertTrue(self.tells(None, tree("a", tree("b", tree("c"), ANY), tree("f")), whole))

    def test_top(self):
        whole = tree("a", tree("a"))
        self.assertTrue(self.tells(TOP, ANY, whole))
        self.assertFalse(self.below(TOP, ANY, whole, 0))
        self.assertTrue(self.below(None, ANY, whole, 0))

    def test_under(self):
        whole = tree("b", tree("c", tree("d")))
        self.assertFalse(self.tells(("under", "b"), ANY, whole))
        self.assertTrue(self.below(("under", "b"), ANY, whole, 0))
        self.assertFalse(self.below(("under", "c"), ANY, whole, 0))
        self.assertTrue(self.below(("under", "c"), ANY, whole, 0, 0))
        self.assertFalse(self.below(("under", "d"), ANY, whole, 0, 0))

    def test_under_looks_at_the_label_directly_above(self):
        whole = tree("b", tree("c", tree("d")))
        self.assertFalse(self.below(("under", "b"), ANY, whole, 0, 0))

    def test_kid(self):
        whole = tree("b", tree("a"), tree("a", tree("c"), tree("d")), tree("a"))
        for number in range(3):
            self.assertFalse(self.tells(("kid", number), ANY, whole))
            for path in range(3):
                self.assertEqual(self.below(("kid", number), ANY, whole, path), path == number)
            for last in range(2):
                self.assertEqual(self.below(("kid", number), ANY, whole, 1, last), last == number)

    def test_spot_and_pattern_and_state_must_all_fit(self):
        whole = tree("a", tree("b"))
        self.assertFalse(self.tells(TOP, tree("b", ANY), whole))
        self.assertFalse(self.tells(("under", "a"), tree("a", ANY), whole))
        self.assertIsNone(told([(1, None, ANY, tree("e"))], whole))


class Told(unittest.TestCase):
    def test_the_first_that_fits_is_taken(self):
        book = [
            (1, None, ANY, tree("f")),
            (0, None, LEAF, tree("a")),
            (0, ("kid", 0), ANY, tree("b")),
            (0, None, tree("d", ANY), tree("c")),
            (0, TOP, ANY, tree("d")),
            (0, None, ANY, tree("e")),
        ]
        self.assertEqual(told(book, tree("d")), tree("a"))
        self.assertEqual(told(book, tree("d", tree("a"))), tree("c"))
        self.assertEqual(told(book, tree("e", tree("a"))), tree("d"))

    def test_no_rules_and_none_for_state_0(self):
        self.assertIsNone(told([], tree("a")))
        for state in range(1, 6):
            self.assertIsNone(told([(state, None, ANY, tree("a"))], tree("a")))

    def test_a_build_without_dos(self):
        build = tree("a", tree("b", tree("c")), tree("d"), tree("e"))
        self.assertEqual(told([(0, None, ANY, build)], tree("f")), build)

    def test_drops_copies_and_turns(self):
        book = [
            (0, TOP, tree("a", ANY, ANY, ANY), tree("b", do(0, 2), do(0, 0), do(0, 2))),
            (0, None, tree("c", ANY), tree("d", tree("e", do(0, 0)))),
            (0, None, LEAF, tree("f")),
        ]
        whole = tree("a", tree("b"), tree("d", tree("a"), tree("b")), tree("c", tree("c", tree("a"))))
        last = tree("d", tree("e", tree("d", tree("e", tree("f")))))
        self.assertEqual(told(book, whole), tree("b", last, tree("f"), last))

    def test_a_do_alone_and_a_kids_kid(self):
        book = [
            (0, None, tree("a", tree("b", ANY, ANY)), do(1, 0, 1)),
            (1, ("kid", 1), LEAF, tree("c")),
            (1, ("kid", 0), LEAF, tree("d")),
        ]
        self.assertEqual(told(book, tree("a", tree("b", tree("e"), tree("e")))), tree("c"))

    def test_mirror(self):
        whole = tree("a", tree("b", tree("c"), tree("d")), tree("d", tree("a"), tree("b"), tree("c")))
        mirrored = tree("a", tree("d", tree("c"), tree("b"), tree("a")), tree("b", tree("d"), tree("c")))
        self.assertEqual(told(mirror_rules(), whole), mirrored)
        self.assertEqual(told(mirror_rules(), mirrored), whole)

    def test_every_state(self):
        book = [(state, None, tree("a", ANY), tree("bcdefa"[state], do((state + 1) % 6, 0))) for state in range(6)]
        book += [(state, None, LEAF, tree("bcdefa"[state])) for state in range(6)]
        out = told(book, chain("a", 8))
        labels = ""
        while out[1]:
            labels += out[0]
            out = out[1][0]
        self.assertEqual(labels + out[0], "bcdefabc")

    def test_none_though_other_rules_would_fit(self):
        book = [
            (0, None, tree("a", ANY), tree("b", do(1, 0))),
            (0, None, ANY, tree("c")),
        ]
        self.assertIsNone(told(book, tree("a", tree("d"))))
        self.assertEqual(told(book, tree("d")), tree("c"))

    def test_none_goes_up_from_below(self):
        book = [(0, None, tree("a", ANY, ANY), tree("b", do(0, 0), do(0, 1))), (0, None, tree("c"), tree("c"))]
        self.assertEqual(told(book, tree("a", tree("c"), tree("c"))), tree("b", tree("c"), tree("c")))
        deep = tree("a", tree("c"), tree("a", tree("c"), tree("d")))
        self.assertIsNone(told(book, deep))
        self.assertIsNone(told(book[:1], tree("a", tree("c"), tree("c"))))

    def test_what_is_dropped_may_come_to_none(self):
        book = [(0, None, tree("a", ANY, ANY), tree("b", do(0, 0))), (0, None, tree("c"), tree("c"))]
        self.assertEqual(told(book, tree("a", tree("c"), tree("d"))), tree("b", tree("c")))

    def test_told_may_be_bigger_and_deeper_than_trees_handed_in(self):
        book = [(0, None, tree("a", ANY), chain("b", 3, do(0, 0))), (0, None, LEAF, chain("c", 4))]
        self.assertEqual(told(book, chain("a", 12)), chain("b", 33, chain("c", 4)))


class Big(unittest.TestCase):
    def sized(self, ends):
        """A root over chains that come to 255, 127 and 15 parts, and a build with three labels or more itself."""
        last = tree("a", do(1, 2), *ends)
        top = (0, TOP, tree("a", ANY, ANY, ANY), tree("a", do(1, 0), do(1, 1), last))
        return told([top] + DOUBLE, tree("a", chain("a", 8), chain("a", 7), chain("a", 4)))

    def test_four_hundred_parts_and_one_more(self):
        out = self.sized((tree("a"),))
        waiting, parts = [out], 0
        while waiting:
            parts += 1
            waiting.extend(waiting.pop()[1])
        self.assertEqual(parts, 400)
        with self.assertRaises(TooBig):
            self.sized((tree("a"), tree("a")))
        with self.assertRaises(TooBig):
            self.sized((tree("a", tree("a")),))

    def test_far_too_big(self):
        book = [
            (0, None, LEAF, tree("c")),
            (0, None, tree("a", ANY), tree("b", *[tree("b", *[do(0, 0)] * 3)] * 2, tree("c", do(0, 0)))),
        ]
        with self.assertRaises(TooBig):
            told(book, chain("a", 12))

    def test_too_big_below_though_the_root_comes_to_none(self):
        deep = chain("a", 10)
        for build in (tree("b", do(1, 0), do(2, 1)), tree("b", do(2, 1), do(1, 0)), tree("b", do(1, 0), do(2, 0))):
            with self.assertRaises(TooBig):
                told([(0, TOP, tree("a", ANY, ANY), build)] + DOUBLE, tree("a", deep, tree("b")))

    def test_the_small_beside_none_is_none(self):
        book = [(0, TOP, tree("a", ANY, ANY), tree("b", do(1, 0), do(2, 1)))] + DOUBLE
        self.assertIsNone(told(book, tree("a", chain("a", 8), tree("b"))))

    def test_what_comes_to_none_is_not_big(self):
        top = (0, TOP, tree("a", ANY, ANY), tree("b", do(1, 0), do(1, 0), do(2, 1)))
        self.assertIsNone(told([top] + DOUBLE, tree("a", chain("a", 8), tree("b"))))
        with self.assertRaises(TooBig):
            told([top, (2, None, ANY, tree("a"))] + DOUBLE, tree("a", chain("a", 8), tree("b")))

    def test_what_is_not_reached_is_not_refused(self):
        whole = tree("a", chain("a", 10))
        book = [(0, TOP, tree("a", ANY), tree("b")), (0, TOP, tree("a", ANY), do(1, 0))] + DOUBLE
        self.assertEqual(told(book, whole), tree("b"))
        with self.assertRaises(TooBig):
            told(book[1:], whole)

    def test_a_dropped_part_is_not_reached(self):
        book = [(0, TOP, tree("a", ANY, ANY), tree("b", do(1, 0)))] + DOUBLE
        self.assertEqual(told(book, tree("a", tree("b"), chain("a", 10))), tree("b", tree("c")))


class Alike(unittest.TestCase):
    def test_alike_with_a_plain_telling(self):
        chance = random.Random(6)
        seen = {"none": 0, "tree": 0, "big": 0}
        for _ in range(3000):
            book = some_book(chance)
            whole = some_tree(chance, 5)
            wanted = plain_told(book, whole)
            if wanted is TooBig:
                seen["big"] += 1
                self.assertRaises(TooBig, told, book, whole)
            else:
                seen["none" if wanted is None else "tree"] += 1
                self.assertEqual(told(book, whole), wanted)
        self.assertGreater(seen["none"], 200)
        self.assertGreater(seen["tree"], 200)

    def test_alike_on_long_copies(self):
        chance = random.Random(60)
        bigs = 0
        for _ in range(300):
            book = [(chance.randrange(2), None, LEAF, tree("c")) for _ in range(3)]
            for label in "abc":
                for state in range(2):
                    parts = [do(chance.randrange(2), 0) for _ in range(chance.randrange(1, 4))]
                    book.append((state, None, tree(label, ANY), tree("d", *parts)))
            whole = tree("a")
            for _ in range(chance.randrange(4, 12)):
                whole = tree(chance.choice("abc"), whole)
            wanted = plain_told(book, whole)
            if wanted is TooBig:
                bigs += 1
                self.assertRaises(TooBig, told, book, whole)
            else:
                self.assertEqual(told(book, whole), wanted)
        self.assertTrue(30 < bigs < 270, bigs)


if __name__ == "__main__":
    unittest.main()
