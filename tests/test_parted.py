"""[13] parted, and that closed and shows tell alike of it."""

import random
import unittest

from helping import count, keep, kept_told, plain_least, renamed, some_keeping, tree, trees_of
from treetellers.keeping import closed, parted, shows

# Tells each a with two kids as an e, turns b into c, and knows nothing else.
BOOK = [keep(0, "a", "e", 0, 1), keep(0, "b", "c"), keep(1, "b", "d"), keep(1, "a", "f", 0, 1)]


def ternary(*leaves):
    """Three kids at each place, down to the sixth level, which has leaves as the state 5 has rules."""
    return [keep(state, "a", "b", *[state + 1] * 3) for state in range(5)] + [keep(5, *leaf) for leaf in leaves]


def parts_here(one, other, deepest, *more):
    """Whether the least tree is the one that has this kind of leaf last, and another one everywhere ahead of it."""
    level, last = tree("c"), tree(deepest)
    for _ in range(5):
        level, last = tree("a", level, level, level), tree("a", level, level, last)
    return parted(one, other) == last and parted(other, one) == last


def parts(ones, others, alike):
    """Whether trees of this kind are such of which the states 0 tell unlike things."""
    return (0 in ones or 0 in others) and (0, 0) not in alike


def unlike(one, other, whole):
    return kept_told(one, 0, whole) != kept_told(other, 0, whole)


class Alike(unittest.TestCase):
    def alike(self, one, other):
        for first, second in ((one, other), (other, one)):
            self.assertIsNone(parted(first, second))
            self.assertIs(shows(first, second, closed(first, second)), True)

    def test_the_same(self):
        self.alike([], [])
        self.alike(BOOK, BOOK)
        self.alike(ternary(("c", "d")), ternary(("c", "d")))

    def test_other_numbers_of_states_and_other_order_of_rules(self):
        for states in ((0, 2), (0, 5), (0, 3)):
            self.alike(BOOK, renamed(BOOK, states)[::-1])

    def test_a_state_that_stands_twice(self):
        twice = [keep(0, "a", "b", 1, 2), keep(1, "a", "b", 2, 1), keep(2, "a", "b", 0, 0)]
        twice += [keep(state, "c", "d") for state in range(3)]
        self.alike(twice, [keep(0, "a", "b", 0, 0), keep(0, "c", "d")])

    def test_rules_of_which_nothing_is_ever_told(self):
        # 2 asks itself for ever, and nobody has rules for 3.
        dead = [keep(0, "c", "c", 2), keep(2, "a", "a", 2), keep(1, "c", "d", 0, 3), keep(0, "f", "f", 1, 2, 0)]
        self.alike(BOOK, BOOK + dead)
        self.alike(dead, [])
        self.alike(dead[:2], dead[2:])

    def test_rules_that_are_never_reached(self):
        self.alike(BOOK, BOOK + [keep(4, "a", "a"), keep(5, "a", "b", 4)])
        self.alike([keep(1, "a", "a")], [keep(2, "a", "b")])

    def test_unlike_where_nothing_is_told_beside_it(self):
        # The two would part at the first kid, were it not that nothing is ever told of the second one.
        one = [keep(0, "a", "b", 1, 2), keep(1, "c", "d"), keep(0, "e", "e")]
        other = [keep(0, "a", "c", 1, 2), keep(1, "c", "e"), keep(0, "e", "e")]
        self.alike(one, other)
        spare = [keep(2, "f", "f")]
        self.assertEqual(parted(one + spare, other + spare), tree("a", tree("c"), tree("f")))


class Parted(unittest.TestCase):
    def parts(self, one, other, whole):
        for first, second in ((one, other), (other, one)):
            self.assertEqual(parted(first, second), whole)
            self.assertIsNone(closed(first, second))
            self.assertTrue(unlike(first, second, whole))

    def test_at_the_root(self):
        self.parts([keep(0, "a", "b")], [keep(0, "a", "c")], tree("a"))
        self.parts(BOOK, [keep(0, "a", "d", 0, 1)] + BOOK[1:], tree("a", tree("b"), tree("b")))

    def test_none_against_a_tree(self):
        self.parts(BOOK, [], tree("b"))
        self.parts(BOOK, BOOK[:1] + BOOK[2:], tree("b"))
        self.parts(BOOK, BOOK[1:], tree("a", tree("b"), tree("b")))
        self.parts(BOOK, BOOK[:2] + BOOK[3:], tree("a", tree("b"), tree("b")))
        self.parts(BOOK, BOOK[:3], tree("a", tree("b"), tree("a", tree("b"), tree("b"))))
        self.parts(BOOK, BOOK + [keep(1, "b", "d", 0)], tree("a", tree("b"), tree("b", tree("b"))))

    def test_none_against_a_tree_that_is_the_same(self):
        leaf = keep(1, "b", "b")
        self.parts([keep(0, "a", "a", 1), leaf], [keep(0, "a", "a", 2), leaf], tree("a", tree("b")))

    def test_deep_below(self):
        for level in range(1, 6):
            one = [keep(state, "a", "b", state + 1) for state in range(level)]
            whole = tree("c")
            for _ in range(level):
                whole = tree("a", whole)
            self.parts(one + [keep(level, "c", "d")], one + [keep(level, "c", "e")], whole)
            self.parts(one + [keep(level, "c", "d")], one, whole)

    def test_deeper_than_either_book_has_states(self):
        # What is told of a chain goes round after five places, or after six; the two part at the seventh a.
        one = [keep(state, "a", sign, (state + 1) % 5) for state, sign in enumerate("cdcdc")]
        other = [keep(state, "a", sign, (state + 1) % 6) for state, sign in enumerate("cdcdcc")]
        ends = [keep(state, "b", "b") for state in range(6)]
        whole = tree("b")
        level = 0
        while not unlike(one + ends[:5], other + ends, whole):
            whole = tree("a", whole)
            level += 1
        self.assertEqual(level, 7)
        self.parts(one + ends[:5], other + ends, whole)

    def test_of_unlike_labels_the_kids_need_only_be_told(self):
        one = [keep(0, "a", "b", 1, 1), keep(1, "c", "c"), keep(1, "d", "d", 2), keep(2, "e", "e")]
        self.parts(one, [keep(0, "a", "f", 1, 1)] + one[1:], tree("a", tree("c"), tree("c")))

    def test_fewer_places_ahead_of_the_label(self):
        one = [keep(0, "a", "a", 1), keep(1, "a", "a"), keep(0, "f", "f")]
        self.parts(one, [keep(0, "a", "b", 1), keep(1, "a", "a"), keep(0, "f", "a")], tree("f"))

    def test_ties_by_the_label(self):
        one = [keep(0, label, "a") for label in "fdbe"]
        self.parts(one, [], tree("b"))
        self.parts(one, [keep(0, "b", "a")], tree("d"))
        self.parts(one, [keep(0, label, "b") for label in "fedc"], tree("b"))

    def test_ties_by_the_kid_in_which_they_part(self):
        # Told unlike is d; c and e are told alike. What is least beside d stands beside it.
        for beside, whole in (
            ("c", tree("a", tree("c"), tree("c"), tree("d"))),
            ("e", tree("a", tree("d"), tree("d"), tree("d"))),
        ):
            one = [keep(0, "a", "b", 1, 1, 1), keep(1, "d", "d"), keep(1, beside, "f")]
            other = [keep(0, "a", "b", 1, 1, 1), keep(1, "d", "e"), keep(1, beside, "f")]
            self.parts(one, other, whole)
        # Told unlike is d over c, or over d, beside a: three, and three places.
        one = [keep(0, "a", "b", 1, 1), keep(1, "a", "a"), keep(1, "d", "d", 2), keep(2, "d", "d"), keep(2, "c", "c")]
        other = [*one[:2], keep(1, "d", "e", 2), *one[3:]]
        self.parts(one, other, tree("a", tree("a"), tree("d", tree("c"))))
        one[1] = other[1] = keep(1, "e", "a")
        self.parts(one, other, tree("a", tree("d", tree("c")), tree("e")))

    def test_ties_by_the_kids_as_tuples_ascend(self):
        # Four places each: a(b,c(d)) or a(b(d),c), and by one kid a(b(c(d))) or a(a(c(d))).
        one = [keep(0, "a", "a", 1, 2), keep(1, "b", "b"), keep(1, "b", "b", 3)]
        one += [keep(2, "c", "c"), keep(2, "c", "c", 3), keep(3, "d", "d")]
        other = [*one[:5], keep(3, "d", "e")]
        self.parts(one, other, tree("a", tree("b"), tree("c", tree("d"))))
        chain = [keep(0, "a", "a", 4), keep(4, "b", "b", 5), keep(5, "c", "c", 3)]
        self.parts(one + chain, other + chain, tree("a", tree("b"), tree("c", tree("d"))))
        chain[1] = keep(4, "a", "b", 5)
        self.parts(one + chain, other + chain, tree("a", tree("a", tree("c", tree("d")))))

    def test_more_than_sixty_places(self):
        leaf = ("c", "f")
        self.assertTrue(parts_here(ternary(leaf), ternary(("c", "e")), "c"))
        self.assertEqual(count(parted(ternary(leaf), ternary(("c", "e")))), 364)
        self.assertTrue(parts_here(ternary(leaf), ternary(), "c"))
        self.assertTrue(parts_here(ternary(leaf, ("d", "d")), ternary(leaf), "d"))
        self.assertTrue(parts_here(ternary(leaf, ("d", "d")), ternary(leaf, ("d", "e")), "d"))
        self.assertTrue(parts_here(ternary(leaf, ("e", "e"), ("d", "d")), ternary(leaf), "d"))

    def test_where_very_many_places_would_be_needed(self):
        # Of no tree do both tell anything but of such as have three kids thirty levels deep.
        one = [keep(state, "a", "a", *[(state + 1) % 5] * 3) for state in range(5)] + [keep(4, "b", "b")]
        other = [keep(state, "a", "a", *[(state + 1) % 6] * 3) for state in range(6)] + [keep(5, "b", "b")]
        wanted = tree("b")
        for _ in range(4):
            wanted = tree("a", wanted, wanted, wanted)
        self.assertEqual(parted(one, other), wanted)
        self.assertEqual(parted(other, one), wanted)

    def test_alike_with_going_over_all_trees(self):
        chance = random.Random(131)
        steps = [("a", 0), ("b", 0), ("a", 1), ("a", 2)]
        trees = trees_of(steps, 6)
        seen = {}
        for number in range(400):
            one = some_keeping(chance, chance.choice((1, 2, 3)), steps, "aab")
            other = some_keeping(chance, chance.choice((1, 2, 3)), steps, "aab")
            if number % 2:
                other = list(one)
                other[chance.randrange(len(other))] = other[-1]
                other.pop()
            whole = parted(one, other)
            wanted = next((each for each in trees if unlike(one, other, each)), None)
            if whole is None or count(whole) <= 6:
                self.assertEqual(whole, wanted)
            else:
                self.assertIsNone(wanted)
                self.assertTrue(unlike(one, other, whole))
            size = 0 if whole is None else count(whole)
            seen[size] = seen.get(size, 0) + 1
        self.assertTrue(all(seen.get(size, 0) > 5 for size in range(5)), seen)

    def test_alike_with_going_over_all_kinds_of_trees(self):
        chance = random.Random(132)
        seen = {}
        rows = [[("a", 0), ("a", 1)], [("a", 0), ("b", 0), ("a", 2)], [("a", 0), ("a", 1), ("b", 1)]]
        rows += [[("b", 0), ("a", 3)], [("a", 0), ("a", 1), ("b", 2)]]
        for _ in range(500):
            steps, states = chance.choice(rows), chance.randrange(2, 7)
            one, other = some_keeping(chance, states, steps, "aab"), some_keeping(chance, states, steps, "aab")
            if chance.randrange(2):
                state, _, pattern, _ = one[-1]
                other = one[:-1] + [keep(state, pattern[0], "a", *[chance.randrange(states) for _ in pattern[1]])]
            wanted = plain_least(one, other, parts, 25)
            if wanted is not False:
                whole = parted(one, other)
                self.assertEqual(whole, wanted)
                self.assertEqual(closed(one, other) is None, whole is not None)
                size = 0 if whole is None else count(whole)
                seen[size] = seen.get(size, 0) + 1
        self.assertGreater(seen[0], 50)
        self.assertGreater(sum(many for size, many in seen.items() if size > 6), 3, seen)


if __name__ == "__main__":
    unittest.main()
