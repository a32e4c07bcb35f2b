"""[11] The teller: a book, and a tree whose parts are changed."""

import random
import unittest

from helping import ANY, LEAF, TOP, chain, do, laid_over, places, plain_reached, plain_told, some_book, some_tree, tree
from treetellers.anew import Teller
from treetellers.errors import BadBook, BadPlace, BadTree, TooBig
from treetellers.telling import told

# Every place that has kids asks state 0 of each of them.
COPY = [(0, None, tree("a", *[ANY] * many), tree("b", *[do(0, kid) for kid in range(many)])) for many in range(4)]
DOUBLE = [(0, None, LEAF, tree("c")), (0, None, tree("a", ANY), tree("b", do(0, 0), do(0, 0)))]


def dense_book(chance):
    """A book of two states by which much is reached of trees over a and b with up to two kids."""
    rules = []
    for label in "ab":
        for state in range(2):
            for many in (1, 2):
                parts = [do(chance.randrange(2), chance.randrange(many)) for _ in range(chance.choice((1, 2, 2)))]
                spot = chance.choice((None, None, ("under", "a"), ("under", "b"), ("kid", 0), TOP))
                kids = [chance.choice((ANY, ANY, LEAF)) for _ in range(many)]
                rules.append((state, spot, tree(label, *kids), tree("c", *parts)))
    chance.shuffle(rules)
    spare = [(state, None, tree("a", *[ANY] * many), do(state, many - 1)) for state in (0, 1) for many in (1, 2)]
    return rules + spare + [(0, None, LEAF, tree("d")), (1, None, LEAF, tree("e"))]


def plain_anew(book, old, new):
    """What change should tell of a tree that becomes another one."""
    stood, stands = dict(places(old)), dict(places(new))
    kept = [
        (place, state)
        for place, state in plain_reached(book, old)
        if stands.get(place) == stood[place] and (place == () or stands[place[:-1]][0] == stood[place[:-1]][0])
    ]
    return sorted(plain_reached(book, new) - set(kept))


class Tells(unittest.TestCase):
    def test_what_it_was_handed(self):
        whole = tree("a", tree("a"), tree("a"))
        teller = Teller(COPY, whole)
        self.assertEqual(teller.tree_now(), whole)
        self.assertEqual(teller.tells(), tree("b", tree("b"), tree("b")))
        self.assertIsNone(Teller([], whole).tells())

    def test_bad_book_and_bad_tree(self):
        with self.assertRaises(BadBook) as caught:
            Teller(COPY + [None], ("g", ()))
        self.assertEqual(caught.exception.number, 4)
        with self.assertRaises(BadTree) as caught:
            Teller(COPY, tree("a", ("g", ())))
        self.assertEqual(caught.exception.place, (0,))

    def test_too_big_is_refused_by_tells_and_by_change(self):
        teller = Teller(DOUBLE, chain("a", 10))
        self.assertEqual(teller.tree_now(), chain("a", 10))
        for _ in range(2):
            self.assertRaises(TooBig, teller.tells)
            self.assertRaises(TooBig, teller.change, (), chain("a", 9))
            self.assertRaises(TooBig, teller.change, (), chain("a", 10))
        self.assertEqual(teller.tree_now(), chain("a", 10))
        # What is reached is known of a tree that is too big, too: nothing of it stays here.
        self.assertEqual(teller.change((0,), chain("a", 7)), [((0,) * level, 0) for level in range(8)])
        self.assertEqual(teller.tells(), told(DOUBLE, chain("a", 8)))


class Changes(unittest.TestCase):
    def test_one_behind_the_other(self):
        teller = Teller(COPY, tree("a", tree("a"), tree("a")))
        self.assertEqual(teller.change((1,), tree("a", tree("a"))), [((), 0), ((1,), 0), ((1, 0), 0)])
        self.assertEqual(teller.tree_now(), tree("a", tree("a"), tree("a", tree("a"))))
        self.assertEqual(teller.tells(), tree("b", tree("b"), tree("b", tree("b"))))
        self.assertEqual(teller.change((1, 0), tree("b")), [((), 0), ((1,), 0), ((1, 0), 0)])
        self.assertIsNone(teller.tells())
        self.assertEqual(teller.change((0,), tree("a", tree("a"))), [((), 0), ((0,), 0), ((0, 0), 0)])
        self.assertIsNone(teller.tells())
        self.assertEqual(teller.change((1,), tree("a")), [((), 0), ((1,), 0)])
        self.assertEqual(teller.tree_now(), tree("a", tree("a", tree("a")), tree("a")))
        self.assertEqual(teller.tells(), tree("b", tree("b", tree("b")), tree("b")))

    def test_the_root(self):
        teller = Teller(COPY, tree("a", tree("a")))
        # The kid is the same tree under the same label as before.
        self.assertEqual(teller.change((), tree("a", tree("a"), tree("a"))), [((), 0), ((1,), 0)])
        self.assertEqual(teller.change((), tree("b")), [((), 0)])
        self.assertEqual(teller.tree_now(), tree("b"))
        self.assertIsNone(teller.tells())

    def test_the_same_tree_laid_over_itself(self):
        whole = tree("a", tree("a", tree("a")), tree("b"))
        teller = Teller(COPY, whole)
        for place, part in places(whole):
            self.assertEqual(teller.change(place, part), [])
            self.assertEqual(teller.tree_now(), whole)

    def test_a_change_and_back_again(self):
        teller = Teller(COPY, tree("a", tree("a")))
        teller.change((0,), tree("b"))
        self.assertEqual(teller.change((0,), tree("a")), [((), 0), ((0,), 0)])
        self.assertEqual(teller.tells(), tree("b", tree("b")))

    def test_what_is_reached_now_and_was_not(self):
        book = [
            (0, None, tree("a", tree("b"), ANY), tree("c")),
            (0, None, tree("a", tree("c"), ANY), tree("c", do(1, 1))),
            (0, None, tree("a", tree("d"), ANY), tree("c", do(2, 1), do(1, 1))),
            (1, None, ANY, tree("e")),
            (2, None, ANY, tree("f")),
        ]
        teller = Teller(book, tree("a", tree("b"), tree("b")))
        self.assertEqual(teller.change((0,), tree("c")), [((), 0), ((1,), 1)])
        self.assertEqual(teller.change((0,), tree("d")), [((), 0), ((1,), 2)])
        self.assertEqual(teller.change((0,), tree("c")), [((), 0)])
        self.assertEqual(teller.change((0,), tree("b")), [((), 0)])
        self.assertEqual(teller.change((0,), tree("d")), [((), 0), ((1,), 1), ((1,), 2)])

    def test_what_only_a_later_rule_would_have_reached_was_not_reached(self):
        book = [
            (0, None, tree("a", LEAF, ANY), tree("c", do(0, 0))),
            (0, None, tree("a", ANY, ANY), tree("d", do(0, 1))),
            (0, None, ANY, tree("e")),
        ]
        teller = Teller(book, tree("a", tree("b"), tree("b")))
        self.assertEqual(teller.change((0,), tree("b", tree("b"))), [((), 0), ((1,), 0)])
        self.assertEqual(teller.change((0,), tree("b")), [((), 0), ((0,), 0)])
        self.assertEqual(teller.change((0,), tree("c")), [((), 0), ((0,), 0)])

    def test_what_is_not_reached_is_not_told(self):
        book = [(0, TOP, tree("a", ANY, ANY), tree("b", do(1, 1))), (1, None, ANY, tree("c"))]
        teller = Teller(book, tree("a", tree("b"), tree("b")))
        self.assertEqual(teller.change((0,), tree("c", tree("d"))), [((), 0)])
        self.assertEqual(teller.change((0, 0), tree("e")), [((), 0)])
        self.assertEqual(teller.change((1,), tree("c", tree("d"))), [((), 0), ((1,), 1)])

    def test_another_label_above_and_the_same_tree(self):
        book = [
            (0, None, tree(label, ANY, ANY), tree("d", do(0, 0), do(0, 1))) for label in "ab"
        ] + [(0, ("under", "a"), LEAF, tree("e")), (0, ("under", "b"), LEAF, tree("f"))]
        kids = (tree("c"), tree("a", tree("c"), tree("c")))
        teller = Teller(book, ("a", kids))
        self.assertEqual(teller.tells(), tree("d", tree("e"), tree("d", tree("e"), tree("e"))))
        # The kids' own kids have the same label above as before.
        self.assertEqual(teller.change((), ("b", kids)), [((), 0), ((0,), 0), ((1,), 0)])
        self.assertEqual(teller.tells(), tree("d", tree("f"), tree("d", tree("e"), tree("e"))))
        wanted = [((), 0), ((1,), 0), ((1, 0), 0), ((1, 1), 0)]
        self.assertEqual(teller.change((1,), tree("b", tree("c"), tree("c"))), wanted)
        self.assertEqual(teller.tells(), tree("d", tree("f"), tree("d", tree("f"), tree("f"))))

    def test_a_tree_that_stood_at_another_place_is_another_one(self):
        teller = Teller(COPY, tree("a", tree("a", tree("a")), tree("a")))
        wanted = [((), 0), ((0,), 0), ((1,), 0), ((1, 0), 0)]
        self.assertEqual(teller.change((), tree("a", tree("a"), tree("a", tree("a")))), wanted)

    def test_rising_and_each_once(self):
        book = [
            (0, TOP, tree("a", ANY, ANY), tree("b", do(5, 1), do(0, 0), do(5, 1))),
            (5, None, tree("a", ANY), tree("b", do(3, 0), do(1, 0), do(3, 0))),
            (0, None, ANY, tree("c")),
        ]
        teller = Teller(book, tree("f"))
        wanted = [((), 0), ((0,), 0), ((1,), 5), ((1, 0), 1), ((1, 0), 3)]
        self.assertEqual(teller.change((), tree("a", tree("b"), tree("a", tree("c")))), wanted)

    def test_alike_with_a_plain_telling(self):
        chance = random.Random(110)
        seen = {"same": 0, "less": 0, "all": 0, "refused": 0}
        for number in range(500):
            book = some_book(chance) if number % 3 == 0 else dense_book(chance)
            whole = some_tree(chance, 4, "ab")
            if plain_told(book, whole) is TooBig:
                continue
            teller = Teller(book, whole)
            for _ in range(8):
                whole = self.changed(chance, book, teller, whole, seen)
                self.assertEqual(teller.tree_now(), whole)
                self.assertEqual(teller.tells(), plain_told(book, whole))
        self.assertTrue(all(many > 20 for many in seen.values()), seen)

    def changed(self, chance, book, teller, whole, seen):
        """The tree behind a change by chance, which is compared with the plain one."""
        place = chance.choice([place for place, _ in places(whole)])
        new = some_tree(chance, chance.choice((1, 2, 5, 10)), "ab")
        if chance.randrange(6) == 0:
            new = chance.choice([part for _, part in places(whole)])
        after = laid_over(whole, place, new)
        if len(places(after)) > 60 or any(len(at) > 11 for at, _ in places(after)):
            seen["refused"] += 1
            self.assertRaises(BadTree, teller.change, place, new)
            return whole
        if plain_told(book, after) is TooBig:
            seen["refused"] += 1
            self.assertRaises(TooBig, teller.change, place, new)
            return whole
        wanted = plain_anew(book, whole, after)
        many = len(plain_reached(book, after))
        seen["all" if len(wanted) == many else "less" if wanted else "same"] += 1
        self.assertEqual(teller.change(place, new), wanted)
        return after


class Refused(unittest.TestCase):
    def refused(self, teller, error, place, new):
        """The error; the teller stays as it was."""
        tree_now, tells = teller.tree_now(), teller.tells()
        with self.assertRaises(error) as caught:
            teller.change(place, new)
        self.assertEqual((teller.tree_now(), teller.tells()), (tree_now, tells))
        for at, part in places(tree_now):
            self.assertEqual(teller.change(at, part), [])
        return caught.exception

    def test_places_that_there_are_not(self):
        teller = Teller(COPY, tree("a", tree("a", tree("a")), tree("a")))
        others = [(2,), (3,), (1, 0), (0, 1), (0, 0, 0), (-1,), (0, -1), (10**19,), (0,) * 12, (0,) * 500, (True,)]
        others += [(False,), (0, False), ("0",), (None,), ((),), ((0,),), "", 0, None]
        for place in others:
            self.refused(teller, BadPlace, place, tree("a"))

    def test_bad_place_ahead_of_bad_tree(self):
        teller = Teller(COPY, tree("a"))
        self.refused(teller, BadPlace, (0,), ("g", ()))
        self.refused(teller, BadPlace, (0,), chain("a", 13))

    def test_no_tree_with_its_own_place(self):
        teller = Teller(COPY, tree("a", tree("a"), tree("a")))
        for place in ((), (0,), (1,)):
            self.assertEqual(self.refused(teller, BadTree, place, ("g", ())).place, ())
            self.assertEqual(self.refused(teller, BadTree, place, tree("a", tree("b", 7))).place, (0, 0))
            self.assertEqual(self.refused(teller, BadTree, place, tree("a", *[tree("a")] * 4)).place, ())
            self.assertEqual(self.refused(teller, BadTree, place, chain("a", 13)).place, (0,) * 12)

    def test_a_whole_that_is_too_deep_with_the_place_in_the_whole(self):
        teller = Teller(COPY, tree("a", tree("a"), tree("a", tree("a"))))
        self.assertEqual(self.refused(teller, BadTree, (1, 0), chain("a", 11)).place, (1, *[0] * 11))
        self.assertEqual(self.refused(teller, BadTree, (0,), chain("a", 12)).place, (0,) * 12)
        self.assertEqual(len(teller.change((1, 0), chain("a", 10))), 12)
        self.assertEqual(self.refused(teller, BadTree, (1,) + (0,) * 10, tree("a", tree("a"))).place, (1, *[0] * 11))

    def test_a_whole_of_too_many_places_with_the_place_in_the_whole(self):
        nineteen = tree("a", *[chain("a", 6)] * 3)
        whole = tree("a", nineteen, nineteen, nineteen)
        teller = Teller(COPY, whole)
        self.assertEqual(len(places(whole)), 58)
        # Of a chain the first place takes the one of the tree that stood there, so three add two.
        low, last = (0, 1) + (0,) * 5, (2, 2) + (0,) * 5
        self.assertEqual(self.refused(teller, BadTree, low, chain("a", 4)).place, last)
        self.assertEqual(self.refused(teller, BadTree, low, tree("a", *[tree("a")] * 3)).place, last)
        self.assertEqual(self.refused(teller, BadTree, last, chain("a", 4)).place, last + (0,) * 3)
        self.assertEqual(len(teller.change(low, chain("a", 3))), len(low) + 3)
        self.assertEqual(len(places(teller.tree_now())), 60)
        self.assertEqual(self.refused(teller, BadTree, (1, 0, 0), tree("a", chain("a", 5))).place, last)
        self.assertEqual(self.refused(teller, BadTree, (), tree("b", whole, whole)).place, (1, 0))

    def test_bad_tree_of_the_new_one_ahead_of_the_whole(self):
        teller = Teller(COPY, chain("a", 12))
        new = tree("a", tree("a", tree("a"), 7))
        self.assertEqual(self.refused(teller, BadTree, (0,) * 11, new).place, (0, 1))
        self.assertEqual(self.refused(teller, BadTree, (0,) * 11, tree("a", tree("a"))).place, (0,) * 12)

    def test_bad_tree_ahead_of_too_big(self):
        teller = Teller(DOUBLE, chain("a", 8))
        self.assertEqual(self.refused(teller, BadTree, (0,) * 7, chain("a", 6)).place, (0,) * 12)

    def test_too_big(self):
        teller = Teller(DOUBLE, chain("a", 8))
        self.refused(teller, TooBig, (0,) * 7, chain("a", 2))
        self.refused(teller, TooBig, (), chain("a", 12))
        self.assertEqual(teller.change((0,) * 6, chain("a", 1)), [((0,) * level, 0) for level in range(7)])
        self.assertEqual(teller.tells(), told(DOUBLE, chain("a", 7)))

    def test_too_big_though_the_root_tells_none(self):
        top = (0, TOP, tree("a", ANY, ANY), tree("b", do(0, 0), do(1, 1)))
        teller = Teller([top] + DOUBLE, tree("a", chain("a", 8), tree("a")))
        self.assertIsNone(teller.tells())
        self.refused(teller, TooBig, (0,), chain("a", 9))


class Own(unittest.TestCase):
    def test_the_book_that_was_handed_in_is_changed_behind(self):
        book = list(COPY)
        teller = Teller(book, tree("a", tree("a")))
        book.reverse()
        book.append(None)
        self.assertEqual(teller.tells(), tree("b", tree("b")))
        self.assertEqual(teller.change((0,), tree("a", tree("a"))), [((), 0), ((0,), 0), ((0, 0), 0)])
        book.clear()
        self.assertEqual(teller.tells(), tree("b", tree("b", tree("b"))))

    def test_the_book_is_not_changed(self):
        book = list(COPY)
        teller = Teller(book, tree("a", tree("a")))
        teller.change((0,), tree("a", tree("a")))
        teller.tells()
        self.assertEqual(book, COPY)

    def test_told_lists_are_changed_behind(self):
        teller = Teller(COPY, tree("a"))
        for new in (tree("a", tree("a")), tree("a"), tree("a", tree("a"))):
            rows = teller.change((), new)
            self.assertEqual(rows, [((), 0)] + [((0,), 0)] * len(new[1]))
            rows.clear()
            rows.append("x")
            self.assertEqual(teller.tree_now(), new)
            self.assertEqual(teller.tells(), told(COPY, new))

    def test_two_tellers_do_not_know_of_each_other(self):
        one, other = Teller(COPY, tree("a")), Teller(COPY, tree("a"))
        one.change((), tree("a", tree("a")))
        self.assertEqual(other.tree_now(), tree("a"))
        self.assertEqual(other.tells(), tree("b"))
        self.assertEqual(other.change((), tree("a", tree("a"))), [((), 0), ((0,), 0)])

    def test_asked_again_the_same_is_told(self):
        teller = Teller(COPY, tree("a", tree("a")))
        for _ in range(3):
            self.assertEqual(teller.tells(), tree("b", tree("b")))
            self.assertEqual(teller.tree_now(), tree("a", tree("a")))
            self.assertRaises(BadPlace, teller.change, (1,), tree("a"))
            told(COPY, tree("b"))


if __name__ == "__main__":
    unittest.main()
