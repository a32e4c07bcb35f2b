"""[16] Books as texts."""

import random
import re
import unittest

from helping import ANY, LEAF, TOP, all_changed, chain, do, first_bad, some_book, tree
from treetellers.errors import BadBook, BadText
from treetellers.notes import read_rules, written_rules
from treetellers.telling import told

HEAD = re.compile("[0-9]")
SPOT = re.compile("-|top|under:[a-f]|kid:[0-9]")
BARE = re.compile("[?.]")
DO = re.compile(r"[0-9]:[0-9](\.[0-9])?")
GOOD = "0 - a(?,b(.)) c(1:0,2:1.0)"

# The four words of rows, each with what it tells.
PARTS = (
    [(str(figure), figure) for figure in (0, 1, 2, 3, 4, 5, 6, 9)],
    [("-", None), ("top", TOP), ("under:f", ("under", "f")), *[(f"kid:{kid}", ("kid", kid)) for kid in (0, 1, 2, 3)]],
    [
        ("?", ANY),
        ("a(?)", tree("a", ANY)),
        ("b(?,a(.))", tree("b", ANY, tree("a", LEAF))),
        ("c(b(d,.),?,?)", tree("c", tree("b", tree("d"), LEAF), ANY, ANY)),
        ("c(?,?,?,?)", tree("c", *[ANY] * 4)),
        ("a(b(c(.)))", tree("a", tree("b", tree("c", LEAF)))),
    ],
    [
        ("a", tree("a")),
        ("b(c,d(e,e),f)", tree("b", tree("c"), tree("d", tree("e"), tree("e")), tree("f"))),
        ("0:0", do(0, 0)),
        ("b(1:0,2:0,a)", tree("b", do(1, 0), do(2, 0), tree("a"))),
        ("5:1.0", do(5, 1, 0)),
        ("c(6:0)", tree("c", do(6, 0))),
        ("d(e(0:2))", tree("d", tree("e", do(0, 2)))),
    ],
)


def plain_row(row):
    """Whether the row is that of a rule by its form."""
    words = row.split(" ")
    return (
        len(words) == 4
        and HEAD.fullmatch(words[0]) is not None
        and SPOT.fullmatch(words[1]) is not None
        and first_bad(words[2], BARE) is None
        and first_bad(words[3], DO) is None
    )


def plain_bad_row(text):
    """The number of the first row that is none by its form; None if all are."""
    rows = text.split("\n") if text else []
    return next((number for number, row in enumerate(rows) if not plain_row(row)), None)


class Both(unittest.TestCase):
    def both(self, text, book):
        self.assertEqual(read_rules(text), book)
        self.assertEqual(written_rules(book), text)

    def test_the_one_of_the_document(self):
        pattern = tree("a", ANY, tree("b", LEAF))
        self.both(GOOD, [(0, None, pattern, tree("c", do(1, 0), do(2, 1, 0)))])

    def test_no_rules(self):
        self.both("", [])

    def test_each_state(self):
        for state in range(6):
            self.both(f"{state} - a(?) {5 - state}:0", [(state, None, tree("a", ANY), do(5 - state, 0))])

    def test_each_spot(self):
        words = {"-": None, "top": TOP}
        words.update({"under:" + label: ("under", label) for label in "abcdef"})
        words.update({f"kid:{kid}": ("kid", kid) for kid in range(3)})
        for word, spot in words.items():
            self.both(f"0 {word} ? a", [(0, spot, ANY, tree("a"))])

    def test_each_kind_of_pattern(self):
        for text, pattern in (
            ("?", ANY),
            (".", LEAF),
            ("a", tree("a")),
            ("f(?)", tree("f", ANY)),
            ("a(.,?,b)", tree("a", LEAF, ANY, tree("b"))),
            ("a(b(?,.),c(d,e))", tree("a", tree("b", ANY, LEAF), tree("c", tree("d"), tree("e")))),
        ):
            self.both(f"3 - {text} b", [(3, None, pattern, tree("b"))])

    def test_each_kind_of_build(self):
        for text, build in (
            ("0:0", do(0, 0)),
            ("5:2", do(5, 2)),
            ("4:1.0", do(4, 1, 0)),
            ("a", tree("a")),
            ("a(0:0)", tree("a", do(0, 0))),
            ("a(b,1:0,c(2:1.1,d))", tree("a", tree("b"), do(1, 0), tree("c", do(2, 1, 1), tree("d")))),
            ("a(b(c(3:1.0)))", chain("a", 1, tree("b", tree("c", do(3, 1, 0))))),
        ):
            book = [(3, TOP, tree("a", ANY, tree("b", LEAF, ANY), ANY), build)]
            self.both(f"3 top a(?,b(.,?),?) {text}", book)

    def test_sixteen_rules(self):
        rows = [f"{number % 6} kid:{number % 3} a(?) b({number % 5}:0)" for number in range(16)]
        book = [(n % 6, ("kid", n % 3), tree("a", ANY), tree("b", do(n % 5, 0))) for n in range(16)]
        self.both("\n".join(rows), book)

    def test_what_is_written_is_read_to_the_same(self):
        chance = random.Random(161)
        for _ in range(500):
            book = some_book(chance)
            text = written_rules(book)
            self.assertEqual(read_rules(text), book)
            self.assertEqual(text.count("\n"), max(len(book) - 1, 0))

    def test_what_is_read_is_a_list_of_its_own(self):
        book = read_rules(GOOD)
        self.assertIsInstance(book, list)
        book.append(None)
        self.assertEqual(len(read_rules(GOOD)), 1)
        read_rules("").append(None)
        self.assertEqual(read_rules(""), [])

    def test_no_book_is_written(self):
        with self.assertRaises(BadBook) as caught:
            written_rules([(0, None, ANY, tree("a")), (6, None, ANY, tree("a"))])
        self.assertEqual(caught.exception.number, 1)


class Refused(unittest.TestCase):
    def bad(self, text, number):
        with self.assertRaises(BadText) as caught:
            read_rules(text)
        self.assertEqual(caught.exception.number, number, text)

    def bad_row(self, row):
        self.bad(row, 0)
        self.bad(row + "\n" + GOOD, 0)
        self.bad(GOOD + "\n" + GOOD + "\n" + row, 2)
        # A row that is none is refused ahead of a rule that can't be.
        self.bad("9 - ? a\n" + row, 1)

    def test_words_left_out_and_put_in(self):
        words = GOOD.split(" ")
        for at in range(4):
            self.bad_row(" ".join(words[:at] + words[at + 1 :]))
            self.bad_row(" ".join(words[: at + 1] + words[at:]))
        for row in ("0", "0 -", "0 - ?", "0 - ? a a", " ", "   ", "0-?a"):
            self.bad_row(row)

    def test_blanks(self):
        for at, sign in enumerate(GOOD):
            if sign == " ":
                self.bad_row(GOOD[:at] + " " + GOOD[at:])
        for row in (" " + GOOD, GOOD + " ", "0 - a(?, .) b", "0 - a( ?) b", "0 - ? a (b)", "0 under: a ? a"):
            self.bad_row(row)

    def test_states(self):
        for word in ("", "a", "-", "00", "10", "-1", "+1", "1:", "?", "0.", "x", "1e"):
            self.bad_row(f"{word} - ? a")

    def test_spots(self):
        words = ["", "--", "Top", "to", "topp", "top:", "top:0", "under", "under:", "under:g", "under:ab", "under:0"]
        words += ["under:A", "kid", "kid:", "kid:a", "kid:00", "kid:10", "kid:-1", "kid0", "kid:1:2", "a", "0", "None"]
        words += ["under:a:b", "-:a", ":", ":a", "underb", "Kid:0", "over:a", "?", "kid:0.1", "kid: ", "under:?"]
        for word in words:
            self.bad_row(f"0 {word} ? a")

    def test_patterns(self):
        words = ["", "g", "??", "..", "?.", "ab", "a()", "a(", "a(?", "a(?,)", "a(,?)", "a(?))", "?(a)", ".(a)", "(?)"]
        words += ["a(?)(?)", "a(??)", "a(?a)", "a(?;?)", "0:0", "a(0:0)", "0", "a?", "?a", "a.b", "*", "any", "a(?),a"]
        for word in words:
            self.bad_row(f"0 - {word} a")

    def test_builds(self):
        words = ["", "g", "?", ".", "a(?)", "a(.)", "ab", "a()", "a(", "a(b", "a(b,)", "a(b))", "0", "0:", ":0", "0:.0"]
        words += ["0:0.", "0:0:0", "0:00", "00:0", "10:0", "0:10", "0:0.10", "0:0.0.0", "0:0.0.", "0:a", "a:0", "0:0a"]
        words += ["0:0(a)", "0:0.0(a)", "a(0:0", "a(0:0 )", "a(0:0.)", "a(0:)", "a(0)", "0.0", "0:-1", "a0:0", "0:0,a"]
        words += ["0:0.0,", "0:0.a", "0:(0)", "0:0.(0)", "a(0:0.0.0)", "a(:0)", "a(.0:0)", "a(b;c)", "0;0", "do"]
        for word in words:
            self.bad_row(f"0 - a(b(?),?) {word}")

    def test_line_ends(self):
        self.bad(GOOD + "\n", 1)
        self.bad(GOOD + "\n\n" + GOOD, 1)
        self.bad("\n" + GOOD, 0)
        self.bad("\n", 0)
        self.bad("\n\n\n", 0)
        self.bad("\n".join([GOOD] * 16) + "\n", 16)

    def test_a_later_row_of_many(self):
        self.bad("\n".join([GOOD] * 17 + ["x"]), 17)
        self.bad("\n".join([GOOD] * 30 + [""] + [GOOD] * 30), 30)

    def test_one_sign_left_out_put_in_or_changed(self):
        text = "0 under:a a(?,b(.)) c(1:0,d(2:1.0))\n3 kid:1 f(?) 0:0\n5 top . e"
        seen = {"text": 0, "book": 0, "good": 0}
        for other in all_changed(text):
            number = plain_bad_row(other)
            if number is not None:
                seen["text"] += 1
                self.bad(other, number)
                continue
            try:
                book = read_rules(other)
            except BadBook:
                seen["book"] += 1
            else:
                seen["good"] += 1
                self.assertEqual(written_rules(book), other)
        self.assertTrue(all(many > 50 for many in seen.values()), seen)


class Bounds(unittest.TestCase):
    def bad(self, text, number):
        self.assertIsNone(plain_bad_row(text))
        with self.assertRaises(BadBook) as caught:
            read_rules(text)
        self.assertEqual(caught.exception.number, number)

    def bad_row(self, row):
        self.bad(row, 0)
        self.bad(GOOD + "\n" + GOOD + "\n" + row + "\n" + row, 2)

    def test_figures_beyond_the_bounds(self):
        for figure in "6789":
            self.bad_row(f"{figure} - ? a")
            self.bad_row(f"0 - a(?) {figure}:0")
        for figure in "3456789":
            self.bad_row(f"0 kid:{figure} ? a")
            self.bad_row(f"0 - a(?,?,?) 0:{figure}")
            self.bad_row(f"0 - a(b(?,?,?)) b(0:0.{figure})")

    def test_a_path_that_the_pattern_has_not(self):
        for pattern, path in (("?", "0"), (".", "0"), ("a", "0"), ("a(?)", "1"), ("a(?)", "0.0"), ("a(b(?),?)", "1.0")):
            self.bad_row(f"0 - {pattern} 0:{path}")
            self.bad_row(f"0 - {pattern} a(b,0:{path})")

    def test_four_kids(self):
        self.bad_row("0 - a(?,?,?,?) a")
        self.bad_row("0 - a(?) a(b,b,b,0:0)")

    def test_too_many_parts(self):
        self.bad_row("0 - a(b(?,?),b(?,?),?) a")
        self.bad_row("0 - a(?) a(a(b,b,b),a(b,b,b),a(b,b,0:0))")

    def test_too_deep(self):
        self.assertEqual(len(read_rules("0 - a(a(?)) a(a(a(0:0)))")), 1)
        self.bad_row("0 - a(a(a(?))) a")
        self.bad_row("0 - a(?) a(a(a(a(0:0))))")
        self.bad_row("0 - " + "a(" * 900 + "?" + ")" * 900 + " a")
        self.bad_row("0 - a(?) " + "a(" * 900 + "0:0" + ")" * 900)
        self.bad_row("0 - a(?) a(" + "b," * 900 + "0:0)")

    def test_seventeen_rows(self):
        self.assertEqual(len(read_rules("\n".join([GOOD] * 16))), 16)
        self.bad("\n".join([GOOD] * 17), 16)
        self.bad("\n".join([GOOD] * 40), 16)
        self.bad("\n".join([GOOD] * 12 + ["9 - ? a"] + [GOOD] * 12), 12)

    def test_just_as_told_refuses_it(self):
        chance = random.Random(162)
        numbers = {}
        for _ in range(1500):
            rows = [[chance.choice(row) for row in PARTS] for _ in range(chance.randrange(5))]
            text = "\n".join([" ".join([word for word, _ in row]) for row in rows])
            book = [tuple([thing for _, thing in row]) for row in rows]
            try:
                told(book, tree("a"))
            except BadBook as error:
                numbers[error.number] = numbers.get(error.number, 0) + 1
                self.bad(text, error.number)
            else:
                self.assertEqual(read_rules(text), book)
        self.assertTrue(all(numbers.get(number, 0) > 10 for number in range(3)), numbers)


if __name__ == "__main__":
    unittest.main()
