"""[12] Books that keep shape, and accepted."""

import random
import unittest

from helping import ANY, LEAF, NUMBER_KINDS, TOP, count, do, keep, kept_told, plain_least, some_keeping, tree, trees_of
from treetellers.errors import BadBook, BadState, NotKeeping
from treetellers.keeping import accepted, closed, least_trees, parted, shows

GOOD = [keep(0, "a", "b", 0, 1), keep(0, "a", "c", 1), keep(1, "a", "b"), keep(0, "b", "b", 5, 4, 3)]
CALLS = (
    lambda book: accepted(book, 0),
    lambda book: accepted(book, 6),
    lambda book: parted(book, []),
    lambda book: parted([], book),
    lambda book: parted(book, [None]),
    lambda book: shows(book, [], []),
    lambda book: shows([], book, [(6, 6)]),
    lambda book: shows(book, [None], [(0, 6)]),
    lambda book: closed(book, []),
    lambda book: closed([], book),
    lambda book: closed(book, [None]),
)


class Keeps(unittest.TestCase):
    def good(self, book):
        accepted(book, 0)
        parted(book, book)
        shows(book, book, [])
        closed(book, book)

    def bad(self, book, number):
        for call in CALLS:
            with self.assertRaises(NotKeeping) as caught:
                call(book)
            self.assertEqual(caught.exception.number, number)

    def bad_rule(self, rule):
        self.bad([rule], 0)
        self.bad(GOOD + [rule], 4)
        self.bad(GOOD[:2] + [rule] + GOOD[2:], 2)

    def test_each_count_of_kids(self):
        self.good([])
        self.good(GOOD)
        self.good([keep(5, "f", "f", 5, 5, 5), keep(5, "f", "f", 5, 5), keep(5, "f", "f", 5), keep(5, "f", "f")])

    def test_spots(self):
        for spot in (TOP, ("under", "a"), ("kid", 0)):
            self.bad_rule((2, spot, *keep(2, "c", "d", 1, 1)[2:]))
            self.bad_rule((2, spot, tree("c"), tree("d")))

    def test_patterns_without_a_label(self):
        for pattern in (ANY, LEAF):
            self.bad_rule((2, None, pattern, tree("d")))

    def test_kids_of_which_not_any_fits(self):
        rows = ((LEAF,), (tree("a"),), (ANY, LEAF), (tree("b", ANY), ANY), (ANY, ANY, LEAF), (ANY, tree("c"), ANY))
        for kids in rows:
            self.bad_rule((2, None, tree("c", *kids), tree("d", *[do(1, kid) for kid in range(len(kids))])))

    def test_a_do_as_the_whole_build(self):
        self.bad_rule((2, None, tree("c", ANY), do(1, 0)))
        self.bad_rule((2, None, tree("c", ANY, ANY), do(1, 1)))

    def test_more_or_fewer_dos_than_kids(self):
        for many in range(4):
            for dos in range(4):
                parts = [do(1, min(number, many - 1)) for number in range(dos)]
                if dos != many and (many or not dos):
                    self.bad_rule((2, None, tree("c", *[ANY] * many), tree("d", *parts)))
        self.bad_rule((2, None, tree("c"), tree("d", tree("e"))))

    def test_dos_that_are_not_in_turn(self):
        for paths in ((1, 0), (0, 0), (1, 1), (0, 2, 1), (2, 1, 0), (0, 1, 1), (0, 0, 2), (1, 1, 2)):
            parts = [do(1, path) for path in paths]
            self.bad_rule((2, None, tree("c", *[ANY] * len(paths)), tree("d", *parts)))

    def test_labels_among_the_dos(self):
        self.bad_rule((2, None, tree("c", ANY), tree("d", tree("e"))))
        self.bad_rule((2, None, tree("c", ANY), tree("d", tree("e", do(1, 0)))))
        self.bad_rule((2, None, tree("c", ANY, ANY), tree("d", do(1, 0), tree("e"))))
        self.bad_rule((2, None, tree("c", ANY, ANY), tree("d", tree("e"), do(1, 1))))

    def test_a_kids_kid(self):
        self.bad_rule((2, None, tree("c", tree("d", ANY)), tree("d", do(1, 0, 0))))

    def test_the_same_state_and_label_and_count_twice(self):
        for rule in (keep(0, "a", "b", 0, 1), keep(0, "a", "f", 3, 3), keep(1, "a", "b"), keep(0, "b", "b", 5, 4, 3)):
            self.bad(GOOD + [rule], 4)
        self.bad([GOOD[0]] * 2, 1)
        self.bad([GOOD[0], GOOD[1], GOOD[1], GOOD[0]], 2)
        self.bad([GOOD[0]] * 16, 1)

    def test_two_of_the_three_alike(self):
        self.good([keep(0, "a", "b", 0), keep(1, "a", "b", 0), keep(0, "b", "b", 0), keep(0, "a", "b", 0, 0)])

    def test_the_first_of_several_is_told(self):
        turned = (2, None, tree("c", ANY, ANY), tree("d", do(1, 1), do(1, 0)))
        self.bad([GOOD[0], turned, GOOD[0], (0, TOP, ANY, tree("a"))], 1)
        self.bad([GOOD[0], GOOD[0], turned], 1)
        self.bad([(0, TOP, tree("a"), tree("a")), (0, None, tree("a"), tree("a"))], 0)

    def test_bad_book_ahead_of_not_keeping(self):
        other = (0, TOP, ANY, tree("a"))
        for book, number in (([other, None], 1), ([other] * 17, 16), ([other, other, (6, *other[1:])], 2)):
            for call in CALLS:
                with self.assertRaises(BadBook) as caught:
                    call(book)
                self.assertEqual(caught.exception.number, number)

    def test_of_two_books_the_first_is_refused_first(self):
        other = [GOOD[0], (0, TOP, ANY, tree("a"))]
        for call in (parted, closed, lambda one, two: shows(one, two, [()])):
            for books, error, number in (
                ((GOOD + [None], other), BadBook, 4),
                ((other, GOOD + [None]), NotKeeping, 1),
                ((other, [GOOD[0]] * 3 + other), NotKeeping, 1),
                ((GOOD, GOOD + [None]), BadBook, 4),
                ((GOOD, other + [None]), BadBook, 2),
                ((GOOD, GOOD + other), NotKeeping, 4),
            ):
                with self.assertRaises(error) as caught:
                    call(*books)
                self.assertEqual(caught.exception.number, number)


class Accepted(unittest.TestCase):
    def test_no_state(self):
        for state in (*NUMBER_KINDS, True, False):
            for book in ([], GOOD):
                self.assertRaises(BadState, accepted, book, state)

    def test_bad_state_behind_bad_book_and_not_keeping(self):
        self.assertRaises(BadBook, accepted, [None], 6)
        self.assertRaises(NotKeeping, accepted, [(0, TOP, ANY, tree("a"))], 6)

    def test_states_of_which_nothing_is_told(self):
        for state in range(6):
            self.assertIsNone(accepted([], state))
        # 2 and 3 ask each other, 4 asks them, and nobody has rules for 5.
        book = [keep(2, "a", "b", 3), keep(3, "a", "b", 2), keep(4, "a", "b", 0, 2)]
        book += [keep(0, "a", "b"), keep(1, "a", "b", 5)]
        self.assertEqual([accepted(book, state) for state in range(6)], [tree("a"), None, None, None, None, None])

    def test_a_leaf_and_one_over_it(self):
        book = [keep(0, "a", "b", 1), keep(1, "c", "d"), keep(2, "b", "b", 1, 0), keep(3, "e", "e", 2, 1, 1)]
        leaf, over = tree("c"), tree("a", tree("c"))
        wanted = [over, leaf, tree("b", leaf, over), tree("e", tree("b", leaf, over), leaf, leaf), None, None]
        self.assertEqual([accepted(book, state) for state in range(6)], wanted)

    def test_fewer_places_ahead_of_the_label(self):
        book = [keep(0, "a", "b", 1), keep(0, "f", "b")]
        book += [keep(1, "a", "b", 2, 2), keep(1, "f", "b", 2), keep(2, "b", "b")]
        self.assertEqual(accepted(book, 0), tree("f"))
        self.assertEqual(accepted(book, 1), tree("f", tree("b")))
        self.assertEqual(accepted(book[::-1], 1), tree("f", tree("b")))

    def test_ties_by_the_label(self):
        book = [keep(0, label, "f") for label in "dbfec"]
        self.assertEqual(accepted(book, 0), tree("b"))
        book = [keep(0, "b", "f", 1), keep(0, "a", "f", 2), keep(1, "a", "a"), keep(2, "f", "f")]
        self.assertEqual(accepted(book, 0), tree("a", tree("f")))

    def test_ties_by_the_kids_as_tuples_ascend(self):
        # Three places each: a over b over c, or a over two.
        for first, wanted in (
            ("b", tree("a", tree("b"), tree("f"))),
            ("c", tree("a", tree("b", tree("c")))),
            ("a", tree("a", tree("a"), tree("f"))),
        ):
            book = [keep(0, "a", "a", 1), keep(0, "a", "a", 3, 4), keep(1, "b", "b", 2), keep(2, "c", "c")]
            book += [keep(3, first, "a"), keep(4, "f", "f")]
            self.assertEqual(accepted(book, 0), wanted)
            self.assertEqual(accepted(book[::-1], 0), wanted)

    def test_ties_are_decided_by_the_label_of_the_first_kid_and_not_by_its_count_of_places(self):
        # Five places each: a(a(a(a(b)))), or a(b,c(a(b))).
        book = [keep(0, "a", "a", 1), keep(0, "a", "a", 4, 5)]
        book += [keep(1, "a", "a", 2), keep(2, "a", "a", 3), keep(3, "a", "a", 4), keep(4, "b", "b")]
        book += [keep(5, "c", "c", 3)]
        self.assertEqual(accepted(book, 0), tree("a", tree("a", tree("a", tree("a", tree("b"))))))
        self.assertEqual(accepted(book[1:], 0), tree("a", tree("b"), tree("c", tree("a", tree("b")))))

    def test_more_than_sixty_places(self):
        # Each place down to the sixth has three kids.
        book = [keep(state, "a", "b", *[state + 1] * 3) for state in range(5)] + [keep(5, "b", "c")]
        whole = tree("b")
        for state in (5, 4, 3, 2, 1, 0):
            self.assertEqual(accepted(book, state), whole)
            whole = tree("a", whole, whole, whole)
        self.assertEqual(count(accepted(book, 0)), 364)

    def test_trees_of_far_more_places_than_could_be_gone_over(self):
        # Two rows of names that lead to trees alike, of three kids each forty levels deep.
        ways = {}
        for level in range(40):
            for side in ("one", "other"):
                ways[side, level] = [("a", [(side, level + 1)] * 3)]
        ways["one", 40] = [("c", [])]
        ways["other", 40] = [("c", [])]
        ways["less"] = [("c", [("one", 40)])]
        ways["two"] = [("a", [("one", 0), "less"]), ("a", [("other", 0), ("one", 40), ("one", 40)])]
        # The second one has one place more.
        ways["far"] = [("f", [("one", 0)]), ("a", [("other", 1), ("other", 1), ("other", 1), "less"])]
        found = least_trees(ways)
        self.assertEqual([len(kid[1]) for kid in found["two"][1]], [3, 0, 0])
        self.assertEqual(found["far"][0], "f")

    def test_what_is_told_of_it_is_something(self):
        chance = random.Random(121)
        for _ in range(300):
            book = some_keeping(chance, 6, [(label, kids) for label in "abc" for kids in range(4)])
            for state in range(6):
                whole = accepted(book, state)
                self.assertEqual(whole, plain_least(book, [], lambda one, other, alike: state in one))
                if whole is not None:
                    self.assertIsNotNone(kept_told(book, state, whole))

    def test_alike_with_going_over_all_trees(self):
        chance = random.Random(122)
        steps = [("a", 0), ("b", 0), ("a", 1), ("a", 2), ("b", 2)]
        trees = trees_of(steps, 6)
        seen = {}
        for _ in range(200):
            book = [rule for rule in some_keeping(chance, 6, steps) if rule[2][1] or chance.randrange(2)]
            for state in range(6):
                whole = accepted(book, state)
                if whole is None or count(whole) > 6:
                    found = [one for one in trees if kept_told(book, state, one) is not None]
                    self.assertEqual(found, [])
                else:
                    self.assertEqual(whole, next(one for one in trees if kept_told(book, state, one) is not None))
                size = 0 if whole is None else count(whole)
                seen[size] = seen.get(size, 0) + 1
        self.assertTrue(all(seen.get(size, 0) > 5 for size in range(6)), seen)


if __name__ == "__main__":
    unittest.main()
