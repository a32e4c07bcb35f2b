"""[14] Which pairs of states show that two books are alike, and the fewest of them."""

import itertools
import random
import unittest

from helping import ANY, NUMBER_KINDS, TOP, keep, kept_told, plain_least, renamed, some_keeping, tree
from treetellers.errors import BadBook, BadPairs, NotKeeping
from treetellers.keeping import closed, parted, shows

ONE = [keep(0, "a", "b", 1, 2), keep(1, "c", "d"), keep(1, "a", "e", 0), keep(2, "c", "f")]
# The same by other states; nothing is ever told by the rules that ask 3.
OTHER = [keep(4, "c", "f"), keep(0, "a", "b", 5, 4), keep(5, "a", "e", 0), keep(5, "c", "d"), keep(0, "d", "d", 5, 3)]
PAIRS = [(0, 0), (1, 5), (2, 4)]
ALL = list(itertools.product(range(6), repeat=2))


def plain_shows(one, other, pairs):
    """Whether the pairs show it, by the words of the document."""
    told = [
        {state for state in range(6) if plain_least(book, [], lambda ones, _, alike: state in ones) is not None}
        for book in (one, other)
    ]

    def live(number, state):
        book = (one, other)[number]
        rules = [rule for rule in book if rule[0] == state and all(do[1] in told[number] for do in rule[3][1])]
        return {(rule[2][0], len(rule[2][1])): (rule[3][0], [do[1] for do in rule[3][1]]) for rule in rules}

    def holds(pair):
        first, second = live(0, pair[0]), live(1, pair[1])
        return first.keys() == second.keys() and all(
            first[head][0] == second[head][0] and all(below in pairs for below in zip(first[head][1], second[head][1]))
            for head in first
        )

    return (0, 0) in pairs and all(holds(pair) for pair in pairs)


class Shows(unittest.TestCase):
    def test_pairs_that_show_it(self):
        self.assertIs(shows(ONE, OTHER, PAIRS), True)
        self.assertIs(shows(OTHER, ONE, [(0, 0), (5, 1), (4, 2)]), True)

    def test_other_order(self):
        for pairs in itertools.permutations(PAIRS):
            self.assertIs(shows(ONE, OTHER, list(pairs)), True)

    def test_twice_the_same(self):
        self.assertIs(shows(ONE, OTHER, PAIRS + PAIRS[1:]), True)
        self.assertIs(shows(ONE, OTHER, PAIRS * 13 + [(0, 0)]), True)

    def test_one_left_out(self):
        for pair in PAIRS:
            self.assertIs(shows(ONE, OTHER, [one for one in PAIRS if one != pair]), False)

    def test_no_pairs(self):
        self.assertIs(shows(ONE, OTHER, []), False)
        self.assertIs(shows([], [], []), False)

    def test_one_put_in(self):
        # 3 has no rules in the one book, and 1, 2 and 3 none in the other.
        fine = [(state, other) for state in (3, 4, 5) for other in (1, 2, 3)]
        for pair in ALL:
            self.assertIs(shows(ONE, OTHER, PAIRS + [pair]), pair in fine + PAIRS)
            self.assertIs(shows(ONE, OTHER, [pair] + PAIRS), pair in fine + PAIRS)
        self.assertIs(shows(ONE, OTHER, PAIRS + fine), True)

    def test_the_other_books_states_stand_second(self):
        self.assertIs(shows(ONE, OTHER, [(0, 0), (5, 1), (4, 2)]), False)

    def test_without_the_pair_of_the_two_first_states(self):
        leaf = [keep(state, "a", "b") for state in range(6)]
        self.assertIs(shows(leaf, leaf, [(0, 0)]), True)
        for pair in ALL[1:]:
            self.assertIs(shows(leaf, leaf, [pair]), False)
        self.assertIs(shows(leaf, leaf, ALL), True)
        self.assertIs(shows(leaf, leaf, ALL[1:]), False)

    def test_other_labels_or_counts_are_live(self):
        one = [keep(0, "a", "b"), keep(0, "c", "d", 0)]
        others = ([keep(0, "a", "b"), keep(0, "c", "d", 0, 0)], one[:1], one[1:], one + [keep(0, "c", "d", 0, 0)])
        for other in (*others, one + [keep(0, "e", "e")], [one[0], keep(0, "d", "d", 0)]):
            self.assertIs(shows(one, other, [(0, 0)]), False)
            self.assertIs(shows(other, one, [(0, 0)]), False)
        self.assertIs(shows(one, one[::-1], [(0, 0)]), True)

    def test_another_label_is_told(self):
        self.assertIs(shows([keep(0, "a", "b")], [keep(0, "a", "c")], [(0, 0)]), False)
        one, two = [keep(0, "a", "b", 0), keep(0, "b", "b")], [keep(0, "a", "c", 0), keep(0, "b", "b")]
        self.assertIs(shows(one, two, [(0, 0)]), False)
        self.assertIs(shows(one[:1], two[:1], [(0, 0)]), True)

    def test_pairs_of_dos_that_are_not_live_are_not_needed(self):
        one = [keep(0, "a", "b", 1, 2), keep(1, "c", "c"), keep(0, "c", "c")]
        other = [keep(0, "a", "d", 4, 4), keep(0, "c", "c"), keep(4, "a", "a", 4)]
        self.assertIs(shows(one, other, [(0, 0)]), True)
        self.assertIs(shows(one, other, [(0, 0), (2, 4)]), True)
        self.assertIs(shows(one, other, [(0, 0), (1, 4)]), False)

    def test_states_of_no_rules(self):
        self.assertIs(shows([], [], [(0, 0)]), True)
        self.assertIs(shows([], [], ALL), True)
        self.assertIs(shows([], [keep(5, "a", "a")], [(0, 0), (5, 4), (4, 4)]), True)
        self.assertIs(shows([], [keep(5, "a", "a")], [(0, 0), (5, 5)]), False)

    def test_alike_with_the_words_of_the_document(self):
        chance = random.Random(141)
        steps = [("a", 0), ("a", 1), ("b", 2)]
        seen = {True: 0, False: 0}
        for number in range(1500):
            states = chance.choice((1, 2, 3))
            one = some_keeping(chance, states, steps, "aaab")
            other = chance.choice((one, one[1:], one[::-1], some_keeping(chance, states, steps, "a")))
            pairs = [pair for pair in closed(one, other) or [(0, 0)] if chance.randrange(12)]
            if number % 2:
                pairs += [(chance.randrange(states + 1), chance.randrange(states + 1)) for _ in range(2)]
            wanted = plain_shows(one, other, pairs)
            self.assertIs(shows(one, other, pairs), wanted)
            seen[wanted] += 1
        self.assertTrue(min(seen.values()) > 300, seen)


class Pairs(unittest.TestCase):
    def bad(self, pairs):
        for one, other in ((ONE, OTHER), ([], []), (ONE, [])):
            self.assertRaises(BadPairs, shows, one, other, pairs)

    def test_forty_pairs_and_forty_one(self):
        self.assertIs(shows([], [], ALL + [(0, 0)] * 4), True)
        self.assertIs(shows([], [], [(5, 5)] * 40), False)
        self.assertIs(shows(ONE, OTHER, PAIRS * 13 + PAIRS[:1]), True)
        self.bad(PAIRS * 13 + PAIRS[:2])
        self.bad(ALL + [(0, 0)] * 5)
        self.bad([(0, 0)] * 41)
        self.bad([(0, 0)] * 500)

    def test_states_from_0_to_5_and_beyond(self):
        for state in range(6):
            self.assertIs(shows([], [], [(0, 0), (state, 5 - state)]), True)
        for state in (*NUMBER_KINDS, True, False):
            for pair in ((0, state), (state, 0), (state, state)):
                self.bad([pair])
                self.bad([(0, 0), pair])
                self.bad([pair, (0, 0), (1, 1)])

    def test_other_tuples_of_numbers(self):
        for other in ((), (0,), (0, 0, 0), (0, 0, 0, 0), (5,), (6,), (0, 0, 6), ((0, 0),), ((0, 0), (0, 0))):
            self.bad([other])
            self.bad([(0, 0), other, (0, 0)])

    def test_no_list_and_no_tuples(self):
        for pairs in ((), (0, 0), ((0, 0),), "", 0, None):
            self.bad(pairs)
        for other in ([0, 0], [], 0, 5, "00", "", None):
            self.bad([(0, 0), other])

    def test_behind_the_books(self):
        turned = [(0, TOP, ANY, tree("a"))]
        self.assertRaises(BadBook, shows, [None], OTHER, [(6, 6)])
        self.assertRaises(BadBook, shows, ONE, [None], [(6, 6)])
        self.assertRaises(NotKeeping, shows, turned, OTHER, [(6, 6)])
        self.assertRaises(NotKeeping, shows, ONE, turned, [(6, 6)] * 41)


class Closed(unittest.TestCase):
    def test_the_fewest_rising(self):
        self.assertEqual(closed(ONE, OTHER), PAIRS)
        self.assertEqual(closed(OTHER, ONE), [(0, 0), (4, 2), (5, 1)])
        self.assertEqual(closed([], []), [(0, 0)])
        self.assertEqual(closed(ONE, ONE), [(0, 0), (1, 1), (2, 2)])

    def test_states_that_are_not_needed_are_left_out(self):
        spare = [keep(3, "a", "b", 1, 2), keep(4, "e", "e"), keep(0, "f", "f", 1, 5)]
        self.assertEqual(closed(ONE + spare, OTHER), PAIRS)

    def test_one_state_beside_several(self):
        twice = [keep(0, "a", "b", 5, 2), keep(2, "a", "b", 2, 5), keep(5, "a", "b", 0, 0)]
        twice += [keep(state, "c", "d") for state in (0, 2, 5)]
        once = [keep(0, "a", "b", 0, 0), keep(0, "c", "d")]
        self.assertEqual(closed(twice, once), [(0, 0), (2, 0), (5, 0)])
        self.assertEqual(closed(once, twice), [(0, 0), (0, 2), (0, 5)])
        self.assertEqual(closed(twice, twice), [(0, 0), (2, 2), (5, 5)])

    def test_all_pairs_of_states(self):
        # The one goes round after five, the other one after six.
        leaves = [keep(state, "b", "b") for state in range(6)]
        one = [keep(state, "a", "a", (state + 1) % 5) for state in range(5)] + leaves[:5]
        other = [keep(state, "a", "a", (state + 1) % 6) for state in range(6)] + leaves
        self.assertEqual(closed(one, other), sorted(itertools.product(range(5), range(6))))
        self.assertIs(shows(one, other, closed(one, other)), True)

    def test_none_where_the_books_part(self):
        self.assertIsNone(closed(ONE, []))
        self.assertIsNone(closed([], ONE))
        self.assertIsNone(closed(ONE, OTHER[:2] + OTHER[3:]))
        self.assertIsNone(closed(ONE, [keep(4, "c", "e")] + OTHER[1:]))
        self.assertIsNone(closed([keep(0, "a", "b", 1), keep(1, "c", "c")], [keep(0, "a", "b", 1), keep(1, "c", "d")]))

    def test_shows_is_true_of_no_pairs_where_the_books_part(self):
        chance = random.Random(142)
        parts = 0
        for _ in range(300):
            one, other = (some_keeping(chance, 2, [("a", 0), ("a", 1), ("a", 2)]) for _ in range(2))
            if parted(one, other) is not None:
                parts += 1
                for pairs in ([(0, 0)], [(0, 0), (1, 1)], list(itertools.product(range(2), repeat=2)), ALL):
                    self.assertIs(shows(one, other, pairs), False)
        self.assertGreater(parts, 100)

    def test_each_is_needed_and_all_are_enough(self):
        chance = random.Random(143)
        seen = {}
        for _ in range(600):
            steps = [("a", 0), ("a", 1), ("b", 2)]
            one = some_keeping(chance, chance.randrange(1, 5), steps, "a")
            other = some_keeping(chance, chance.randrange(1, 5), steps, "a")
            if chance.randrange(2):
                other = renamed(one, [0] + chance.sample(range(1, 6), 5))
            pairs = closed(one, other)
            if pairs is None:
                self.assertNotEqual(kept_told(one, 0, parted(one, other)), kept_told(other, 0, parted(one, other)))
                continue
            self.assertIsNone(parted(one, other))
            self.assertEqual(pairs, sorted(set(pairs)))
            self.assertTrue(plain_shows(one, other, pairs))
            # Fewest: whatever holds all that shows it holds these; each one left out, it is not shown.
            for pair in pairs:
                rest = [each for each in pairs if each != pair]
                self.assertFalse(plain_shows(one, other, rest))
                self.assertIs(shows(one, other, rest), False)
            seen[len(pairs)] = seen.get(len(pairs), 0) + 1
        self.assertTrue(all(seen.get(many, 0) > 3 for many in (1, 2, 3, 4)), seen)

    def test_no_fewer_pairs_of_any_others_show_it(self):
        chance = random.Random(144)
        pairs = list(itertools.product(range(2), repeat=2))
        lists = [list(some) for many in range(5) for some in itertools.combinations(pairs, many)]
        seen = {}
        for _ in range(300):
            one, other = (some_keeping(chance, 2, [("a", 0), ("a", 1), ("b", 1)], "a") for _ in range(2))
            fewest = next((some for some in lists if shows(one, other, some)), None)
            self.assertEqual(closed(one, other), fewest)
            many = 0 if fewest is None else len(fewest)
            seen[many] = seen.get(many, 0) + 1
        self.assertTrue(all(seen.get(many, 0) > 3 for many in range(5)), seen)


if __name__ == "__main__":
    unittest.main()
