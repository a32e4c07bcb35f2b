"""[2] Trees: their form and bounds, and the place with which BadTree is refused."""

import unittest

from helping import ANY, chain, places, tree
from treetellers.anew import Teller
from treetellers.errors import BadTree
from treetellers.notes import read, written
from treetellers.origins import comes_of, origins
from treetellers.telling import all_told, told
from treetellers.walks import made, sets_at, walked

# One part and one state-0 rule without dos, so that every tree is told something.
BOOK = [(0, None, ANY, tree("e"))]
WALK = made(BOOK)


def wide(count):
    """A tree of so many places, up to five levels deep, three kids wherever there are enough places."""
    rows = [("b", ())] * count
    kids = [[] for _ in range(count)]
    for number in range(1, count):
        kids[(number - 1) // 3].append(number)
    for number in reversed(range(count)):
        rows[number] = ("b", tuple([rows[kid] for kid in kids[number]]))
    return rows[0]


class Trees(unittest.TestCase):
    def good(self, whole):
        self.assertEqual(told(BOOK, whole), ("e", ()))
        self.assertEqual(all_told(BOOK, whole), [("e", ())])
        self.assertEqual(walked(BOOK, WALK, whole), ("e", ()))
        self.assertEqual(sets_at(BOOK, whole), [(0,)] * len(places(whole)))
        self.assertEqual(origins(BOOK, whole), [((), (), 0)])
        for place, _ in places(whole):
            self.assertEqual(comes_of(BOOK, whole, place), [] if place else [()])
        self.assertEqual(Teller(BOOK, whole).tree_now(), whole)
        teller = Teller(BOOK, tree("f", tree("f")))
        self.assertEqual(teller.change((), whole), [((), 0)])
        self.assertEqual((teller.tree_now(), teller.tells()), (whole, ("e", ())))
        self.assertEqual(read(written(whole)), whole)

    def bad(self, whole, place):
        calls = (
            lambda: told(BOOK, whole),
            lambda: all_told(BOOK, whole),
            lambda: walked(BOOK, WALK, whole),
            lambda: sets_at(BOOK, whole),
            lambda: told([], whole),
            lambda: origins(BOOK, whole),
            lambda: comes_of(BOOK, whole, ()),
            lambda: comes_of(BOOK, whole, (5,)),
            lambda: Teller(BOOK, whole),
            lambda: Teller(BOOK, tree("f")).change((), whole),
            lambda: Teller(BOOK, chain("f", 12)).change((0,) * 11, whole),
            lambda: written(whole),
        )
        for call in calls:
            with self.assertRaises(BadTree) as caught:
                call()
            self.assertEqual(caught.exception.place, place)

    def test_each_letter_is_a_label(self):
        for label in "abcdef":
            self.good((label, ()))

    def test_other_texts_are_no_labels(self):
        for label in ("g", "A", "", "ab", "abcdef", " a", "a ", "any", "leaf", "do", "0", "z"):
            self.bad((label, ()), ())
            self.bad(tree("a", tree("b"), (label, ())), (1,))

    def test_other_things_are_no_labels(self):
        for label in (0, 1, 10**19, -1, (), ("a",), ("a", ())):
            self.bad((label, ()), ())
            self.bad(tree("a", tree("b", (label, ()))), (0, 0))

    def test_three_kids_and_four(self):
        self.good(tree("a", *[tree("b")] * 3))
        self.bad(tree("a", *[tree("b")] * 4), ())
        self.bad(tree("a", tree("c"), tree("a", *[tree("b")] * 4)), (1,))

    def test_kids_that_are_no_tuple(self):
        for kids in ("", "a", "abc", 0, 2):
            self.bad(("a", kids), ())
            self.bad(tree("a", tree("c", ("a", kids))), (0, 0))

    def test_other_tuples(self):
        for other in ((), ("a",), ("a", (), ()), ("a", (), 0), ((), "a"), (("a", ()),), (("a", ()), ("b", ()))):
            self.bad(other, ())
            self.bad(tree("a", tree("b"), tree("c"), other), (2,))

    def test_texts_and_numbers_where_a_tree_should_stand(self):
        for other in ("", "a", "ab", "a()", 0, 1, 12345):
            self.bad(other, ())
            self.bad(tree("a", other), (0,))
            self.bad(tree("a", tree("b", tree("c"), other)), (0, 1))

    def test_sixty_places_and_sixty_one(self):
        self.assertEqual(len(places(wide(60))), 60)
        self.good(wide(60))
        for count in (61, 62, 90):
            self.bad(wide(count), places(wide(count))[60][0])

    def test_the_sixty_first_place_is_counted_in_turn(self):
        # 1 + 11 + 11 + 11 places under two kids, and as many again under the third one.
        part = tree("a", chain("b", 10), chain("c", 10), chain("d", 10))
        self.bad(tree("a", part, part), (1, 2, *[0] * 7))

    def test_below_eleven_others_and_below_twelve(self):
        self.good(chain("a", 12))
        self.bad(chain("a", 13), (0,) * 12)

    def test_below_thirteen_the_one_ahead_is_told(self):
        self.bad(chain("a", 14), (0,) * 12)
        self.bad(chain("a", 40), (0,) * 12)

    def test_deep_in_a_later_kid(self):
        deep = tree("a", tree("b"), tree("c"), chain("d", 12))
        self.bad(deep, (2, *[0] * 11))
        self.good(tree("a", tree("b"), tree("c"), chain("d", 11)))

    def test_what_is_below_twelve_is_no_tree_either(self):
        self.bad(chain("a", 12, "x"), (0,) * 12)
        self.bad(chain("a", 11, ("x", ())), (0,) * 11)

    def test_the_first_in_turn_is_told(self):
        self.bad(tree("a", tree("b", 7), 8), (0, 0))
        self.bad(tree("a", tree("b"), 8, 9), (1,))
        self.bad(tree("a", tree("b", tree("c"), ("g", (7,))), 8), (0, 1))
        self.bad(("g", (7, 8)), ())

    def test_the_form_ahead_of_its_kids(self):
        self.bad(tree("a", ("b", (7, 8, 9, 10))), (0,))

    def test_form_and_depth_and_count_by_turn_alone(self):
        deep = chain("b", 12)
        self.bad(tree("a", 7, deep), (0,))
        self.bad(tree("a", deep, 7), (0,) * 12)
        self.bad(tree("a", wide(60), 7), places(tree("a", wide(60)))[60][0])
        self.bad(tree("a", wide(59), 7), (1,))
        self.bad(tree("a", wide(58), tree("g")), (1,))

    def test_a_tree_may_hold_the_same_tuple_often(self):
        one = tree("b", tree("c"))
        self.good(tree("a", one, one, tree("d", one, one)))


if __name__ == "__main__":
    unittest.main()
