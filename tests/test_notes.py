"""[15] Trees as texts."""

import itertools
import random
import unittest

from helping import LABELLED, all_changed, chain, first_bad, places, some_tree, tree
from treetellers.errors import BadText, BadTree
from treetellers.notes import read, written


def texts_of_a(most):
    """The texts of all trees over a, with any number of kids, that have at most so many signs."""
    texts = [[] for _ in range(most + 1)]
    rows = [[] for _ in range(most + 1)]
    for many in range(1, most + 1):
        texts[many] = ["a"] if many == 1 else ["a(" + row + ")" for row in rows[max(many - 3, 0)]]
        rows[many] = list(texts[many])
        for last in range(1, many - 1):
            rows[many] += [row + "," + text for row in rows[many - 1 - last] for text in texts[last]]
    return [text for row in texts for text in row]


class Trees(unittest.TestCase):
    def test_each_kind_both_ways(self):
        pairs = [
            ("a(b,c(d))", tree("a", tree("b"), tree("c", tree("d")))),
            ("f", tree("f")),
            ("a(b)", tree("a", tree("b"))),
            ("a(a,b,c)", tree("a", tree("a"), tree("b"), tree("c"))),
            ("e(d(c(b(a))),f(a),e(e))", None),
            ("a(a(a,a,a),a(a,a),a(a(a)))", None),
            (written(chain("a", 12)), chain("a", 12)),
        ] + [(label, (label, ())) for label in "abcdef"]
        for text, whole in pairs:
            whole = read(text) if whole is None else whole
            self.assertEqual(written(whole), text)
            self.assertEqual(read(text), whole)

    def test_what_is_written_is_read_to_the_same(self):
        chance = random.Random(151)
        for _ in range(500):
            whole = some_tree(chance, 6, "abcdef")
            self.assertEqual(read(written(whole)), whole)

    def test_sixty_places(self):
        part = tree("b", chain("c", 9), chain("d", 9))
        whole = tree("a", part, part, tree("b", chain("c", 9), chain("d", 9), tree("e", tree("f"))))
        self.assertEqual(len(places(whole)), 60)
        self.assertEqual(read(written(whole)), whole)

    def test_what_is_told_is_tuples(self):
        whole = read("a(b,c)")
        self.assertEqual(repr(whole), repr(tree("a", tree("b"), tree("c"))))

    def test_no_tree_is_written(self):
        with self.assertRaises(BadTree) as caught:
            written(tree("a", tree("b"), ("g", ())))
        self.assertEqual(caught.exception.place, (1,))


class Refused(unittest.TestCase):
    def bad(self, text, number):
        with self.assertRaises(BadText) as caught:
            read(text)
        self.assertEqual(caught.exception.number, number, text)

    def test_the_empty_text(self):
        self.bad("", 0)

    def test_the_first_sign_that_cannot_be(self):
        for text, number in (
            ("g", 0),
            ("A", 0),
            ("?", 0),
            (" a", 0),
            ("(a)", 0),
            (")", 0),
            (",", 0),
            ("a ", 1),
            ("ab", 1),
            ("a,b", 1),
            ("a)", 1),
            ("a\n", 1),
            ("\na", 0),
            ("a()", 2),
            ("a(,b)", 2),
            ("a((b))", 2),
            ("a( b)", 2),
            ("a(g)", 2),
            ("a(b c)", 3),
            ("a(b(", 4),
            ("a(b,)", 4),
            ("a(b,,c)", 4),
            ("a(b;c)", 3),
            ("a(b)(c)", 4),
            ("a(b)c", 4),
            ("a(b),c", 4),
            ("a(b))", 4),
            ("a(b(c))d", 7),
            ("a(b,c).", 6),
            ("a(b.)", 3),
            ("a(1:0)", 2),
            ("a(b))))))", 4),
            ("ggg", 0),
        ):
            self.bad(text, number)

    def test_how_many_signs_there_are_if_more_must_come(self):
        whole = "a(b,c(d,e),f)"
        # Only the whole text and its first sign are texts of trees.
        for many in range(2, len(whole)):
            self.bad(whole[:many], many)
        self.bad("a(" * 300, 600)
        self.bad("a(" * 300 + "b" + ")" * 99, 700)
        self.bad("a(" * 200 + "b" + ")" * 201, 601)

    def test_all_short_texts(self):
        # Whatever has six signs and goes on to a tree's text goes on to one of at most eleven.
        whole = set(texts_of_a(11))
        begun = {text[:many] for text in whole for many in range(len(text) + 1)}
        self.assertIn("a(a,a,a,a)", whole)
        self.assertIn("a(a,a(a))", whole)
        for many in range(7):
            for signs in itertools.product("a(),g", repeat=many):
                text = "".join(signs)
                wrong = next((at for at in range(many) if text[: at + 1] not in begun), many)
                self.assertEqual(first_bad(text), None if text in whole else wrong)
                if text in whole:
                    self.assertEqual(text.count("a"), len(places(read(text))))
                else:
                    self.bad(text, wrong)

    def test_one_sign_left_out_put_in_or_changed(self):
        wrong, right = 0, 0
        for text in all_changed("a(b,c(d,e(f)),a(b(c),d))"):
            number = first_bad(text)
            if number is None:
                right += 1
                self.assertEqual(written(read(text)), text)
            else:
                wrong += 1
                self.bad(text, number)
        self.assertGreater(right, 40)
        self.assertGreater(wrong, 3000)


class Forms(unittest.TestCase):
    def bad(self, text, place):
        with self.assertRaises(BadTree) as caught:
            read(text)
        self.assertEqual(caught.exception.place, place)

    def test_four_kids(self):
        self.bad("a(b,c,d,e)", ())
        self.bad("a(b,c(a,a,a,a),d)", (1,))
        self.bad("a(" + ",".join("b" * 300) + ")", ())

    def test_too_deep(self):
        self.assertEqual(read("a(" * 11 + "b" + ")" * 11), chain("a", 11, tree("b")))
        self.bad("a(" * 12 + "b" + ")" * 12, (0,) * 12)
        self.bad("f(a,b," + "a(" * 12 + "b" + ")" * 12 + ")", (2,) + (0,) * 11)
        self.bad("a(" * 230 + "b" + ")" * 230, (0,) * 12)
        self.bad("a(" * 3000 + "b" + ")" * 3000, (0,) * 12)

    def test_too_many_places(self):
        three = "b(c(d,d,d),c(d,d,d),c(d,d,d))"
        self.bad(f"a({three},{three},a({three},{three},{three}))", (2, 2, 1, 0))
        self.bad(f"a({three},{three},a({three},{three},{three},a))", (2,))

    def test_the_first_in_turn(self):
        self.bad("a(b(c,c,c,c),d(a,a,a,a))", (0,))
        self.bad("a(b(c,c,c,c),d(a,a,a,a),a,a)", ())

    def test_the_text_ahead_of_the_form(self):
        for text, number in (("a(b,c,d,e", 9), ("a(b,c,d,e))", 10), ("a(" * 20 + "g", 40), ("a(b,c,d,e,g)", 10)):
            with self.assertRaises(BadText) as caught:
                read(text)
            self.assertEqual(caught.exception.number, number)
            self.assertEqual(first_bad(text), number)

    def test_letters(self):
        self.assertEqual([sign for sign in "abcdefgABCDEF019_`" if LABELLED.match(sign)], list("abcdef"))


if __name__ == "__main__":
    unittest.main()
