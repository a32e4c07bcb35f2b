"""[7] all_told: every tree that may come, rising, and its refusals."""

import random
import unittest

from helping import ANY, LEAF, TOP, chain, count, do, plain_all, plain_told, some_book, some_tree, tree
from treetellers.errors import TooBig, TooMany
from treetellers.telling import all_told, told


def ways(state, label, many):
    """So many rules, each of which tells another tree of a leaf with that label."""
    return [(state, None, tree(label), tree("abcdef"[number])) for number in range(many)]


def double(state=1):
    return [(state, None, LEAF, tree("c")), (state, None, tree("a", ANY), tree("b", do(state, 0), do(state, 0)))]


class AllTold(unittest.TestCase):
    def test_nothing(self):
        self.assertEqual(all_told([], tree("a")), [])
        self.assertEqual(all_told([(1, None, ANY, tree("a"))], tree("a")), [])
        self.assertEqual(all_told([(0, None, tree("a", ANY), do(0, 0))], tree("a", tree("b"))), [])

    def test_each_rule_that_fits(self):
        book = [
            (0, None, ANY, tree("c")),
            (0, None, LEAF, tree("b")),
            (0, TOP, tree("a"), tree("d")),
            (0, ("kid", 0), tree("a"), tree("e")),
            (1, None, ANY, tree("f")),
        ]
        self.assertEqual(all_told(book, tree("a")), [tree("b"), tree("c"), tree("d")])
        self.assertEqual(all_told(book, tree("b")), [tree("b"), tree("c")])
        self.assertEqual(all_told(book, tree("a", tree("a"))), [tree("c")])

    def test_a_rule_of_which_a_do_tells_nothing(self):
        book = [(0, None, tree("a", ANY), tree("b", do(1, 0))), (0, None, ANY, tree("c"))]
        self.assertEqual(all_told(book, tree("a", tree("d"))), [tree("c")])

    def test_rising_as_tuples_ascend(self):
        builds = [
            tree("b"),
            tree("a", tree("b")),
            tree("a", tree("a"), tree("c")),
            tree("a"),
            tree("a", tree("a", tree("f"))),
            tree("a", tree("a")),
        ]
        book = [(0, None, ANY, build) for build in builds]
        rising = [builds[3], builds[5], builds[2], builds[4], builds[1], builds[0]]
        self.assertEqual(all_told(book, tree("f")), rising)
        self.assertEqual(all_told(book, tree("f")), sorted(builds))

    def test_the_same_tree_by_two_ways_once(self):
        book = [(0, None, ANY, tree("a")), (0, None, LEAF, tree("a")), (0, None, ANY, tree("a"))]
        self.assertEqual(all_told(book, tree("f")), [tree("a")])
        book = [
            (0, None, tree("a", ANY), tree("b", do(0, 0))),
            (0, None, tree("a", ANY), tree("b", tree("c"))),
            (0, None, LEAF, tree("c")),
        ]
        self.assertEqual(all_told(book, tree("a", tree("d"))), [tree("b", tree("c"))])

    def test_the_same_tree_by_rules_far_apart_once(self):
        letters = "abcabcba"
        book = [(0, None, ANY, tree(letter)) for letter in letters]
        self.assertEqual(all_told(book, tree("f")), [tree("a"), tree("b"), tree("c")])

    def test_a_do_that_stands_twice_is_taken_anew_each_time(self):
        book = [(0, None, tree("a", ANY), tree("d", do(0, 0), do(0, 0)))] + ways(0, "b", 2)
        a, b = tree("a"), tree("b")
        wanted = [tree("d", a, a), tree("d", a, b), tree("d", b, a), tree("d", b, b)]
        self.assertEqual(all_told(book, tree("a", tree("b"))), wanted)

    def test_a_place_that_two_dos_go_to_is_taken_anew_below(self):
        book = [
            (0, TOP, tree("a", ANY), tree("d", do(1, 0), do(2, 0))),
            (1, None, tree("a", ANY), do(3, 0)),
            (2, None, tree("a", ANY), do(3, 0)),
        ]
        self.assertEqual(len(all_told(book + ways(3, "b", 3), tree("a", tree("a", tree("b"))))), 9)

    def test_told_is_among_them(self):
        chance = random.Random(7)
        met = 0
        for _ in range(500):
            book, whole = some_book(chance), some_tree(chance, 4)
            try:
                trees = all_told(book, whole)
            except (TooMany, TooBig):
                continue
            first = plain_told(book, whole)
            if first is not None:
                met += 1
                self.assertIn(first, trees)
                self.assertEqual(told(book, whole), first)
        self.assertGreater(met, 50)


class Refused(unittest.TestCase):
    def kids(self, *more):
        """Three times four times five trees, and what these builds tell."""
        top = [(0, TOP, tree("a", ANY, ANY, ANY), tree("f", do(1, 0), do(1, 1), do(1, 2)))]
        top += [(0, None, ANY, build) for build in more]
        book = top + ways(1, "a", 3) + ways(1, "b", 4) + ways(1, "c", 5)
        return all_told(book, tree("a", tree("a"), tree("b"), tree("c")))

    def test_sixty_trees_and_sixty_one(self):
        trees = self.kids()
        self.assertEqual(len(trees), 60)
        self.assertEqual(trees, sorted(trees))
        self.assertRaises(TooMany, self.kids, tree("a"))

    def test_sixty_and_one_of_them_again(self):
        again = tree("f", tree("a"), tree("b"), tree("c"))
        self.assertEqual(self.kids(again, again), self.kids())

    def test_sixty_four_by_one_rule(self):
        book = [(0, TOP, tree("a", ANY), tree("f", do(1, 0), do(1, 0), do(1, 0)))] + ways(1, "b", 4)
        self.assertRaises(TooMany, all_told, book, tree("a", tree("b")))

    def test_sixty_one_below_a_root_that_tells_nothing(self):
        book = [(0, TOP, tree("a", ANY), tree("f", do(1, 0), do(5, 0)))]
        book += [(1, None, tree("a", ANY), tree("f", do(2, 0), do(2, 0), do(2, 0)))] + ways(2, "b", 4)
        self.assertRaises(TooMany, all_told, book, tree("a", tree("a", tree("b"))))

    def test_what_is_not_reached_is_not_refused(self):
        book = [(0, TOP, tree("a", ANY), tree("f"))]
        book += [(1, None, tree("a", ANY), tree("f", do(2, 0), do(2, 0), do(2, 0)))] + ways(2, "b", 4)
        self.assertEqual(all_told(book, tree("a", tree("a", tree("b")))), [tree("f")])

    def test_very_many_choices(self):
        dos = [tree("f", do(1, 0), do(1, 0), do(1, 0))] * 2
        book = [(0, TOP, tree("a", ANY), tree("f", *dos, tree("f", do(1, 0), do(1, 0))))] + ways(1, "b", 6)
        self.assertRaises(TooMany, all_told, book, tree("a", tree("b")))

    def test_very_many_choices_beside_none(self):
        dos = [tree("f", do(1, 0), do(1, 0), do(1, 0))] * 2
        book = [(0, TOP, tree("a", ANY), tree("f", *dos, tree("f", do(1, 0), do(2, 0))))] + ways(1, "b", 6)
        self.assertEqual(all_told(book, tree("a", tree("b"))), [])

    def sized(self, *ends):
        last = tree("a", do(1, 2), *ends)
        top = (0, TOP, tree("a", ANY, ANY, ANY), tree("a", do(1, 0), do(1, 1), last))
        other = (0, TOP, ANY, tree("a"))
        return all_told([other, top] + double(), tree("a", chain("a", 8), chain("a", 7), chain("a", 4)))

    def test_four_hundred_parts_and_one_more(self):
        trees = self.sized(tree("a"))
        self.assertEqual([count(one) for one in trees], [1, 400])
        self.assertRaises(TooBig, self.sized, tree("a"), tree("a"))

    def test_too_big_by_a_later_rule(self):
        whole = chain("a", 10)
        book = [(0, TOP, tree("a", ANY), tree("b")), (0, TOP, tree("a", ANY), do(1, 0))] + double()
        self.assertEqual(told(book, whole), tree("b"))
        self.assertRaises(TooBig, all_told, book, whole)

    def test_too_big_beside_none(self):
        book = [(0, TOP, tree("a", ANY), tree("b", do(2, 0), do(1, 0)))] + double()
        self.assertRaises(TooBig, all_told, book, chain("a", 10))

    def test_too_many_ahead_of_too_big_at_one_place_and_state(self):
        # The one kid comes to 255 parts, the other to 8 ways, twice each of them: 64 trees of 513 parts.
        book = [(0, TOP, tree("a", ANY, ANY), tree("f", tree("f", do(1, 0), do(1, 0)), do(2, 1), do(2, 1)))] + double()
        book += ways(2, "b", 6)
        whole = tree("a", chain("a", 8), tree("b"))
        self.assertRaises(TooBig, all_told, book, whole)
        book += [(2, None, LEAF, tree("a", tree("a"))), (2, None, LEAF, tree("a", tree("b")))]
        self.assertRaises(TooMany, all_told, book, whole)

    def test_too_many_by_later_rules_ahead_of_too_big_by_the_first(self):
        big = (0, TOP, tree("a", ANY, ANY), tree("f", do(1, 0), do(1, 0)))
        book = [big, (0, TOP, ANY, tree("e")), (0, TOP, tree("a", ANY, ANY), tree("f", do(2, 1), do(2, 1)))]
        whole = tree("a", chain("a", 8), tree("b"))
        six = ways(2, "b", 6)
        self.assertRaises(TooBig, all_told, book + double() + six, whole)
        more = [(2, None, LEAF, tree("a", tree(label))) for label in "ab"]
        self.assertRaises(TooMany, all_told, book + double() + six + more, whole)

    def test_what_hangs_on_another_one_is_not_due(self):
        # Below there are 36 trees of more than 400 parts; above there would be too many.
        six = ways(2, "b", 6)
        below = (3, None, tree("a", ANY, ANY), tree("f", tree("f", do(1, 0), do(1, 0)), do(2, 1), do(2, 1)))
        above = (0, TOP, tree("a", ANY), tree("f", do(3, 0), do(3, 0)))
        whole = tree("a", tree("a", chain("a", 8), tree("b")))
        self.assertRaises(TooBig, all_told, [above, below] + double() + six, whole)


class Alike(unittest.TestCase):
    def setUp(self):
        self.seen = {"nothing": 0, "one": 0, "several": 0, TooMany: 0, TooBig: 0}

    def alike(self, book, whole):
        wanted = plain_all(book, whole)
        if isinstance(wanted, set):
            with self.assertRaises(tuple(wanted)) as caught:
                all_told(book, whole)
            self.seen[type(caught.exception)] += 1
        else:
            self.seen["nothing" if not wanted else "one" if len(wanted) == 1 else "several"] += 1
            self.assertEqual(all_told(book, whole), wanted)

    def test_alike_with_a_plain_telling(self):
        chance = random.Random(11)
        for _ in range(2000):
            self.alike(some_book(chance), some_tree(chance, 4))
        for kind in ("nothing", "one", "several"):
            self.assertGreater(self.seen[kind], 100, self.seen)

    def test_alike_with_a_plain_telling_of_many_and_big_trees(self):
        chance = random.Random(12)
        for _ in range(1000):
            book = ways(0, "a", chance.randrange(1, 3)) + ways(1, "a", chance.randrange(3))
            for _ in range(chance.randrange(2, 8)):
                parts = [do(chance.randrange(2), chance.randrange(2)) for _ in range(chance.randrange(4))]
                book.append((chance.randrange(2), None, tree(chance.choice("bc"), ANY, ANY), tree("d", *parts)))
            whole = tree("a")
            for _ in range(chance.randrange(1, 9)):
                whole = tree(chance.choice("bc"), whole, chance.choice((whole, tree("a"))))
                if count(whole) > 25:
                    break
            self.alike(book, whole)
        for kind in ("nothing", "one", "several", TooMany):
            self.assertGreater(self.seen[kind], 50, self.seen)

    def test_alike_with_a_plain_telling_of_long_chains(self):
        chance = random.Random(13)
        for _ in range(300):
            book = [(0, None, LEAF, tree("c")), (1, None, LEAF, tree("d"))]
            book += [(0, None, LEAF, tree("d"))][:chance.randrange(2)]
            for label, state in [(label, state) for label in "ab" for state in range(2)]:
                parts = [do(chance.randrange(2), 0) for _ in range(chance.randrange(1, 4))]
                book.append((state, None, tree(label, ANY), tree("d", *parts)))
            whole = tree("a")
            for _ in range(chance.randrange(3, 12)):
                whole = tree(chance.choice("ab"), whole)
            self.alike(book, whole)
        for kind in ("one", "several", TooMany, TooBig):
            self.assertGreater(self.seen[kind], 10, self.seen)


if __name__ == "__main__":
    unittest.main()
