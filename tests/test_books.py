"""[3] Patterns and spots, [4] builds, rules and books, and the number with which BadBook is refused."""

import unittest

from helping import ANY, LEAF, NUMBER_KINDS, TOP, chain, do, tree
from treetellers.anew import Teller
from treetellers.errors import BadBook, NotKeeping
from treetellers.keeping import accepted, closed, parted, shows
from treetellers.notes import read_rules, written_rules
from treetellers.origins import comes_of, origins
from treetellers.telling import all_told, told
from treetellers.walks import made, sets_at, walked

SEED = tree("f")
GOOD = (0, None, tree("a", ANY), tree("b", do(0, 0)))


def rule(state=0, spot=None, pattern=ANY, build=tree("b")):
    return (state, spot, pattern, build)


class Books(unittest.TestCase):
    def good(self, book):
        told(book, SEED)
        all_told(book, SEED)
        sets_at(book, SEED)
        walk = made(book)
        walked(book, walk, SEED)
        origins(book, SEED)
        comes_of(book, SEED, ())
        Teller(book, SEED).change((), tree("e"))
        self.assertEqual(read_rules(written_rules(book)), book)
        for call in self.keeping_calls(book):
            try:
                call()
            except NotKeeping:
                pass

    def keeping_calls(self, book):
        return (
            lambda: accepted(book, 0),
            lambda: parted(book, []),
            lambda: parted([], book),
            lambda: shows(book, [], []),
            lambda: shows([], book, []),
            lambda: closed(book, []),
            lambda: closed([], book),
        )

    def bad(self, book, number):
        calls = (
            lambda: told(book, SEED),
            lambda: all_told(book, SEED),
            lambda: sets_at(book, SEED),
            lambda: made(book),
            lambda: walked(book, made([]), SEED),
            lambda: origins(book, SEED),
            lambda: comes_of(book, SEED, ()),
            lambda: Teller(book, SEED),
            lambda: written_rules(book),
            *self.keeping_calls(book),
        )
        for call in calls:
            with self.assertRaises(BadBook) as caught:
                call()
            self.assertEqual(caught.exception.number, number)

    def bad_rule(self, one):
        self.bad([one], 0)
        self.bad([GOOD, GOOD, one, GOOD], 2)


class Patterns(Books):
    def test_each_kind(self):
        for pattern in (ANY, LEAF, tree("a"), tree("f", ANY), tree("b", LEAF, tree("c", ANY), ANY)):
            self.good([rule(pattern=pattern)])

    def test_other_things(self):
        others = ["", "any", "a", 0, None, (), ("a",), ("top",), ("any", ()), ("leaf", ()), ("any", "any")]
        others += [("a", (), ()), ("g", ()), ("ab", ()), ("", ()), (0, ()), (None, ()), (("a",), ()), (ANY,)]
        others += [("a", 0), ("a", ""), ("a", "b"), ("a", None), ((), ()), do(0, 0), ("do", ()), ("any", (ANY,))]
        for other in others:
            self.bad_rule(rule(pattern=other))
            self.bad_rule(rule(pattern=tree("a", other)))
            self.bad_rule(rule(pattern=tree("a", ANY, tree("b", LEAF, other))))

    def test_three_kids_and_four(self):
        self.good([rule(pattern=tree("a", ANY, ANY, ANY))])
        self.bad_rule(rule(pattern=tree("a", ANY, ANY, ANY, ANY)))
        self.bad_rule(rule(pattern=tree("a", tree("b", LEAF, LEAF, LEAF, LEAF))))

    def test_seven_parts_and_eight(self):
        two = tree("b", ANY, LEAF)
        self.good([rule(pattern=tree("a", two, two))])
        self.bad_rule(rule(pattern=tree("a", two, two, ANY)))
        self.bad_rule(rule(pattern=tree("a", ANY, two, tree("c", LEAF, LEAF, LEAF))))
        self.good([rule(pattern=tree("a", tree("b", tree("b"), ANY, ANY), tree("c"), tree("d")))])
        self.bad_rule(rule(pattern=tree("a", tree("b", tree("b"), ANY, ANY), tree("c"), tree("d", tree("e")))))

    def test_within_two_others_and_within_three(self):
        for end in (ANY, LEAF, tree("c")):
            self.good([rule(pattern=chain("a", 2, end))])
            self.bad_rule(rule(pattern=chain("a", 3, end)))
            self.bad_rule(rule(pattern=tree("b", ANY, chain("a", 2, end))))
        self.bad_rule(rule(pattern=chain("a", 4, ANY)))


class Spots(Books):
    def test_each_kind(self):
        for spot in (None, TOP, *[("under", label) for label in "abcdef"], *[("kid", k) for k in range(3)]):
            self.good([rule(spot=spot)])

    def test_other_things(self):
        others = ["", "top", "-", 0, 1, (), ("top", 0), ("top", ()), ("under",), ("kid",), ("any",), (None,)]
        others += [("under", "g"), ("under", "ab"), ("under", ""), ("under", 0), ("under", None), ("under", ("a",))]
        others += [("under", "a", "b"), ("kid", 0, 1), ("over", "a"), ("kid", "a"), (0, "a"), ("a", "under"), TOP * 2]
        for other in others:
            self.bad_rule(rule(spot=other))

    def test_kid_numbers(self):
        for number in (3, *NUMBER_KINDS):
            self.bad_rule(rule(spot=("kid", number)))


class Builds(Books):
    def test_each_kind(self):
        pattern = tree("a", ANY, tree("b", LEAF))
        for build in (do(0, 0), do(5, 1), do(3, 1, 0), tree("c"), tree("a", do(0, 0), tree("f"), do(0, 0))):
            self.good([rule(pattern=pattern, build=build)])

    def test_other_things(self):
        others = ["", "do", "a", 0, None, (), ("do",), ("do", 0), ("do", (0,)), ("do", 0, (0,), ()), ("Do", 0, (0,))]
        others += [ANY, LEAF, ("a",), ("a", (), ()), ("g", ()), ("ab", ()), ("", ()), (0, ()), (None, ()), ("a", 0)]
        others += [("a", "b"), ("a", None), ("a", 0, (0,)), (("do", 0, (0,)),), ("do", (0,), 0), ("do", ())]
        for other in others:
            self.bad_rule(rule(pattern=tree("a", ANY), build=other))
            self.bad_rule(rule(pattern=tree("a", ANY), build=tree("b", do(0, 0), other)))

    def test_three_kids_and_four(self):
        self.good([rule(pattern=tree("a", ANY), build=tree("b", *[do(0, 0)] * 3))])
        self.bad_rule(rule(pattern=tree("a", ANY), build=tree("b", *[do(0, 0)] * 4)))
        self.bad_rule(rule(build=tree("b", tree("a", *[tree("c")] * 4))))

    def test_states_of_dos(self):
        for state in range(6):
            self.good([rule(pattern=tree("a", ANY), build=do(state, 0))])
        for state in NUMBER_KINDS:
            self.bad_rule(rule(pattern=tree("a", ANY), build=do(state, 0)))
            self.bad_rule(rule(pattern=tree("a", ANY), build=tree("b", do(0, 0), do(state, 0))))

    def test_paths_of_none_to_three_numbers(self):
        pattern = chain("a", 2, ANY)
        self.bad_rule(rule(pattern=pattern, build=do(0)))
        self.good([rule(pattern=pattern, build=do(0, 0))])
        self.good([rule(pattern=pattern, build=do(0, 0, 0))])
        self.bad_rule(rule(pattern=pattern, build=do(0, 0, 0, 0)))
        self.bad_rule(rule(pattern=tree("a", pattern), build=do(0, 0, 0, 0)))

    def test_paths_to_kids_that_the_pattern_has_and_has_not(self):
        pattern = tree("a", ANY, tree("b", LEAF, tree("c")), tree("d"))
        for path in ((0,), (1,), (2,), (1, 0), (1, 1)):
            self.good([rule(pattern=pattern, build=do(0, *path))])
            self.good([rule(pattern=pattern, build=tree("e", tree("f"), do(0, *path)))])
        for path in ((3,), (0, 0), (2, 0), (1, 2), (1, 1, 0), (-1,), (1, -1), (-2, 0), (10**19,)):
            self.bad_rule(rule(pattern=pattern, build=do(0, *path)))
            self.bad_rule(rule(pattern=pattern, build=tree("e", tree("f"), do(0, *path))))

    def test_patterns_without_kids_have_no_paths(self):
        for pattern in (ANY, LEAF, tree("a")):
            for path in ((0,), (0, 0), (-1,), ()):
                self.bad_rule(rule(pattern=pattern, build=do(0, *path)))

    def test_other_paths(self):
        for path in (0, "", "0", None, ("0",), (None,), ((),), ((0,),), (0, "0"), (0, None), (0, (0,))):
            self.bad_rule(rule(pattern=tree("a", tree("b", ANY)), build=("do", 0, path)))

    def test_twelve_parts_and_thirteen(self):
        three = tree("b", do(0, 0), tree("c"), do(1, 0))
        twelve = tree("a", three, three, tree("d", tree("e"), do(0, 0)))
        thirteen = tree("a", three, three, three)
        self.good([rule(pattern=tree("a", ANY), build=twelve)])
        self.bad_rule(rule(pattern=tree("a", ANY), build=thirteen))

    def test_within_three_others_and_within_four(self):
        for end in (do(0, 0), tree("c")):
            self.good([rule(pattern=tree("a", ANY), build=chain("b", 3, end))])
            self.bad_rule(rule(pattern=tree("a", ANY), build=chain("b", 4, end)))
            self.bad_rule(rule(pattern=tree("a", ANY), build=tree("b", tree("c"), chain("b", 3, end))))
            self.bad_rule(rule(pattern=tree("a", ANY), build=chain("b", 5, end)))


class Rules(Books):
    def test_states(self):
        for state in range(6):
            self.good([rule(state=state)])
        for state in (*NUMBER_KINDS, True, False):
            self.bad_rule(rule(state=state))

    def test_other_things(self):
        others = ["", "rule", 0, None, (), (0,), (0, None, ANY), (0, None, ANY, tree("b"), None), (GOOD,), GOOD * 2]
        others += [(None, 0, ANY, tree("b")), (0, ANY, None, tree("b")), (0, None, tree("b"), ANY)]
        for other in others:
            self.bad_rule(other)

    def test_no_rules(self):
        self.good([])

    def test_sixteen_rules_and_seventeen(self):
        self.good([GOOD] * 16)
        self.bad([GOOD] * 17, 16)
        self.bad([GOOD] * 18, 16)
        self.bad([GOOD] * 16 + [None], 16)

    def test_the_first_of_several_is_told(self):
        self.bad([GOOD, None, rule(state=6)], 1)
        self.bad([rule(spot=("kid", 3)), None], 0)
        self.bad([GOOD] * 15 + [None, None, GOOD], 15)
        self.bad([GOOD] * 3 + [None] + [GOOD] * 20, 3)

    def test_no_list(self):
        self.bad(tuple([GOOD]), 0)

    def test_bad_book_ahead_of_bad_tree(self):
        calls = (
            told,
            all_told,
            sets_at,
            origins,
            Teller,
            lambda book, whole: walked(book, made([]), whole),
            lambda book, whole: comes_of(book, whole, (5,)),
        )
        for call in calls:
            with self.assertRaises(BadBook):
                call([None], ("g", ()))


if __name__ == "__main__":
    unittest.main()
