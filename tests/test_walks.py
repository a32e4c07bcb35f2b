"""[8] sets_at and made, [9] walked."""

import itertools
import random
import unittest

from helping import ANY, LEAF, TOP, chain, do, fits, places, some_book, some_tree, tree
from treetellers.errors import BadTree, TooBig, TooMany
from treetellers.telling import told
from treetellers.walks import made, sets_at, walked


def patterns_book(*patterns):
    return [(number % 6, None, pattern, tree("a")) for number, pattern in enumerate(patterns)]


def made_or_none(book):
    try:
        return made(book)
    except TooMany:
        return None


class Parts(unittest.TestCase):
    def parts(self, *patterns):
        return made(patterns_book(*patterns))[0]

    def test_none(self):
        self.assertEqual(made([])[0], [])

    def test_each_ahead_of_those_within_it_these_in_turn(self):
        inner = tree("b", tree("c"), LEAF)
        whole = tree("a", inner, tree("d", ANY))
        self.assertEqual(self.parts(whole), [whole, inner, tree("c"), LEAF, tree("d", ANY), ANY])

    def test_rule_by_rule(self):
        self.assertEqual(self.parts(LEAF, tree("a"), ANY), [LEAF, tree("a"), ANY])
        self.assertEqual(self.parts(ANY, LEAF, tree("a")), [ANY, LEAF, tree("a")])

    def test_the_same_part_in_two_rules_once(self):
        first = tree("a", ANY, LEAF)
        second = tree("b", tree("a", ANY, LEAF), ANY)
        self.assertEqual(self.parts(first, second, first), [first, ANY, LEAF, second])
        self.assertEqual(self.parts(second, first), [second, first, ANY, LEAF])

    def test_the_same_part_twice_in_one_rule_once(self):
        whole = tree("a", tree("b", ANY), ANY, tree("b", ANY))
        self.assertEqual(self.parts(whole), [whole, tree("b", ANY), ANY])

    def test_states_spots_and_builds_do_not_matter(self):
        book = [(3, TOP, tree("a", ANY), do(1, 0)), (0, ("under", "b"), tree("a", ANY), tree("c"))]
        self.assertEqual(made(book)[0], [tree("a", ANY), ANY])


class SetsAt(unittest.TestCase):
    def test_for_each_place_in_turn(self):
        book = patterns_book(tree("a", LEAF, ANY), tree("b", ANY))
        # The parts: 0 a(.,?), 1 leaf, 2 any, 3 b(?).
        whole = tree("a", tree("c"), tree("b", tree("a", tree("b"), tree("b", tree("c")))))
        self.assertEqual(sets_at(book, whole), [(0, 2), (1, 2), (2, 3), (0, 2), (1, 2), (2, 3), (1, 2)])

    def test_the_empty_book(self):
        self.assertEqual(sets_at([], tree("a", tree("b"), tree("c"))), [(), (), ()])

    def test_spots_and_states_do_not_matter(self):
        book = [(4, TOP, tree("b"), tree("a")), (5, ("kid", 2), ANY, tree("a"))]
        self.assertEqual(sets_at(book, tree("a", tree("b"))), [(1,), (0, 1)])

    def test_more_than_ten_sets_are_no_matter(self):
        book = patterns_book(*[tree(label) for label in "abcdef"], *[tree(label, ANY) for label in "abcdef"])
        self.assertEqual(sets_at(book, tree("f", tree("a"))), [(7, 12), (0, 7)])

    def test_alike_with_fits(self):
        chance = random.Random(8)
        for _ in range(500):
            book, whole = some_book(chance), some_tree(chance, 5)
            self.assertEqual(sets_at(book, whole), sets_by_patterns(book, whole))


def parts_by_patterns(book):
    parts = []

    def meet(pattern):
        if pattern not in parts:
            parts.append(pattern)
        for kid in pattern[1] if len(pattern) == 2 else ():
            meet(kid)

    for rule in book:
        meet(rule[2])
    return parts


def sets_by_patterns(book, whole):
    parts = parts_by_patterns(book)
    return [tuple([n for n, part in enumerate(parts) if fits(part, here)]) for _, here in places(whole)]


class Made(unittest.TestCase):
    def test_a_tuple_of_three_lists(self):
        for book in ([], patterns_book(ANY)):
            walk = made(book)
            self.assertIsInstance(walk, tuple)
            self.assertEqual([type(part) for part in walk], [list] * 3)

    def test_the_empty_book(self):
        rows = [(), (0,), (0, 0), (0, 0, 0)]
        table = [(label, row, 0) for label in "abcdef" for row in rows]
        self.assertEqual(made([]), ([], [()], table))

    def test_any_alone(self):
        parts, sets, table = made(patterns_book(ANY))
        self.assertEqual((parts, sets), ([ANY], [(0,)]))
        self.assertEqual(len(table), 24)

    def test_leaf_alone(self):
        parts, sets, table = made(patterns_book(LEAF))
        self.assertEqual((parts, sets), ([LEAF], [(), (0,)]))
        self.assertEqual(len(table), 6 * (1 + 2 + 4 + 8))
        self.assertEqual(table[:4], [("a", (), 1), ("a", (0,), 0), ("a", (0, 0), 0), ("a", (0, 0, 0), 0)])
        self.assertEqual([row for row in table if row[2] == 1], [(label, (), 1) for label in "abcdef"])

    def test_a_label_over_a_leaf(self):
        parts, sets, table = made(patterns_book(tree("b", tree("c"))))
        self.assertEqual((parts, sets), ([tree("b", tree("c")), tree("c")], [(), (0,), (1,)]))
        self.assertEqual([row for row in table if row[2]], [("b", (2,), 1), ("c", (), 2)])
        self.assertEqual(len(table), 6 * (1 + 3 + 9 + 27))

    def test_sets_rise_as_tuples_ascend(self):
        # Found first are the sets of leaves, which are not the least.
        _, sets, _ = made(patterns_book(tree("a", ANY), tree("b", LEAF), tree("a")))
        self.assertEqual(sets, [(0, 1), (1,), (1, 2), (1, 3), (1, 3, 4)])

    def test_only_sets_that_come_of_some_tree(self):
        # Nothing is a leaf with a kid: the pattern's parts alone would allow for it.
        _, sets, _ = made(patterns_book(tree("a", LEAF), tree("a", tree("b", LEAF))))
        for one in sets:
            self.assertFalse(0 in one and 2 in one)

    def test_sets_of_deep_trees_come_too(self):
        _, sets, _ = made(patterns_book(chain("a", 3)))
        self.assertEqual(sets, [(), (0,), (1,), (2,)])

    def labels(self, more):
        """Seven sets of the leaves and the others, and one more for each of these labels over a kid."""
        return patterns_book(*[tree(label) for label in "abcdef"], *[tree(label, ANY) for label in more])

    def test_ten_sets_and_eleven(self):
        parts, sets, table = made(self.labels("abc"))
        self.assertEqual(len(parts), 10)
        self.assertEqual(len(sets), 10)
        self.assertEqual(len(table), 6 * (1 + 10 + 100 + 1000))
        self.assertRaises(TooMany, made, self.labels("abcd"))
        self.assertRaises(TooMany, made, self.labels("abcdef"))

    def test_very_many_sets(self):
        patterns = [tree("a", tree("b"), tree("c", ANY), chain("d", 2)), tree("a", ANY, ANY, LEAF)]
        patterns += [tree(label, *[tree(kid)] * many) for label, kid, many in itertools.product("abc", "de", (1, 2))]
        self.assertRaises(TooMany, made, patterns_book(*patterns[:16]))

    def check_walk(self, book, walk):
        """The walk by trees: one for each set, found by fits alone, and all rows over these trees."""
        parts, sets, table = walk
        self.assertEqual(parts, parts_by_patterns(book))
        self.assertEqual(sets, sorted(set(sets)))
        rows = [row for many in range(4) for row in itertools.product(range(len(sets)), repeat=many)]
        self.assertEqual([row[:2] for row in table], sorted(itertools.product("abcdef", rows)))
        trees = {}
        before = -1
        while before < len(trees):
            before = len(trees)
            for many in range(4):
                for label, kids in itertools.product("abcdef", itertools.product(list(trees.values()), repeat=many)):
                    whole = (label, kids)
                    trees.setdefault(tuple([n for n, part in enumerate(parts) if fits(part, whole)]), whole)
        self.assertEqual(sorted(trees), sets)
        for label, row, number in table:
            whole = (label, tuple([trees[sets[kid]] for kid in row]))
            self.assertEqual(tuple([n for n, part in enumerate(parts) if fits(part, whole)]), sets[number])

    def test_by_trees_of_each_set(self):
        chance = random.Random(9)
        met = {}
        for _ in range(400):
            book = some_book(chance)[:chance.randrange(5)]
            walk = made_or_none(book)
            if walk is not None and len(walk[1]) <= 6:
                met[len(walk[1])] = met.get(len(walk[1]), 0) + 1
                if met[len(walk[1])] <= 12:
                    self.check_walk(book, walk)
        self.assertTrue(all(met.get(many, 0) >= 5 for many in (1, 2, 3, 4, 5, 6)), met)
        self.check_walk(self.labels("abc"), made(self.labels("abc")))


class Walked(unittest.TestCase):
    def test_alike_with_told(self):
        chance = random.Random(10)
        seen = {"none": 0, "tree": 0}
        for _ in range(2000):
            book = some_book(chance)[:chance.choice((1, 2, 3, 4, 16))]
            walk = made_or_none(book)
            if walk is None:
                continue
            for _ in range(3):
                self.alike(book, walk, some_tree(chance, 5, "abcdef"), seen)
                self.alike(book, walk, some_tree(chance, 4, "abc"), seen)
        self.assertGreater(seen["none"], 200)
        self.assertGreater(seen["tree"], 200)

    def alike(self, book, walk, whole, seen):
        try:
            wanted = told(book, whole)
        except TooBig:
            self.assertRaises(TooBig, walked, book, walk, whole)
            return
        seen["none" if wanted is None else "tree"] += 1
        self.assertEqual(walked(book, walk, whole), wanted)

    def test_the_empty_book(self):
        self.assertIsNone(walked([], made([]), tree("a", tree("b"))))

    def test_spots(self):
        book = [
            (0, TOP, tree("a", ANY, ANY), tree("b", do(0, 0), do(0, 1))),
            (0, ("kid", 1), LEAF, tree("c")),
            (0, ("under", "a"), LEAF, tree("d")),
            (0, ("under", "e"), LEAF, tree("f")),
            (0, None, tree("e", ANY), do(0, 0)),
        ]
        walk = made(book)
        for kid in (tree("a"), tree("e", tree("a"))):
            whole = tree("a", kid, kid)
            self.assertEqual(walked(book, walk, whole), told(book, whole))
        self.assertEqual(walked(book, walk, tree("a", tree("b"), tree("b"))), tree("b", tree("d"), tree("c")))

    def test_too_big(self):
        book = [(0, None, LEAF, tree("c")), (0, None, tree("a", ANY), tree("b", do(0, 0), do(0, 0)))]
        walk = made(book)
        self.assertEqual(walked(book, walk, chain("a", 8)), told(book, chain("a", 8)))
        self.assertRaises(TooBig, walked, book, walk, chain("a", 9))

    def test_bad_tree_at_its_place(self):
        with self.assertRaises(BadTree) as caught:
            walked([], made([]), tree("a", tree("b"), ("g", ())))
        self.assertEqual(caught.exception.place, (1,))

    def test_the_walk_tells_which_patterns_fit(self):
        # With a table by which nothing is a leaf, the rule for leaves is never taken.
        book = [(0, None, LEAF, tree("c"))]
        parts, sets, table = made(book)
        none = [(label, row, sets.index(())) for label, row, _ in table]
        self.assertEqual(walked(book, (parts, sets, table), tree("a")), tree("c"))
        self.assertIsNone(walked(book, (parts, sets, none), tree("a")))


if __name__ == "__main__":
    unittest.main()
