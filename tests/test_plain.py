"""Points 22 to 24: the plain tree, its nodes, and search."""

import unittest

from deedworlds.errors import NoKind, NoSize, TooMany
from deedworlds.plain import MOST_NODES, nodes, plain, search
from deedworlds.search import leaves, search_judged, shown
from tests.helpers import Checks, kind, nested
from tests.papers import places_in, plain_by_words, trees_in

NO_SIZES = [0, 7, -1, True, None, "2", nested(300)]
GROUP = kind("m/2 i/1 e/0", "m(e, x) = x", "m(i(x), x) = e", "m(m(x, y), z) = m(x, m(y, z))")
KINDS = [
    (kind("f/1"), 5), (kind("e/0 f/1"), 4), (kind("f/1", "f(f(x)) = x"), 6), (kind("a/0 b/0 c/0 d/0"), 6),
    (kind("m/2", "m(m(x, y), z) = m(x, m(y, z))"), 3), (GROUP, 3), (kind("f/1 e/0", "x = y"), 6),
    (kind("m/2", "m(x, x) = x", "m(x, m(x, y)) = y", "m(m(x, y), y) = x"), 4),
    (kind("m/2 e/0", "m(x, y) = e"), 3), (kind("e/0 c/0", "e = c", "c = e"), 6),
    (kind("f/1 g/1", "f(g(x)) = x"), 4), (kind("m/2", "m(m(x, y), m(z, w)) = m(m(x, z), m(y, w))"), 2),
    (kind("f/1", "f(f(x)) = f(x)", "f(x) = f(y)"), 6), (kind("m/2", "m(x, y) = x"), 4),
    (kind("f/1", "x = f(f(x))"), 4), (kind("e/0 f/1", "x = e"), 3), (kind("e/0 f/1", "f(x) = x", "e = x"), 3),
    (kind("e/0 f/1", "e = f(e)", "x = f(f(f(x)))"), 4), (kind("f/1 m/2", "m(f(x), f(x)) = f(m(x, x))"), 2),
    (kind("e/0 m/2", "m(m(x, x), m(y, x)) = m(x, m(e, e))", "m(e, x) = x"), 3),
]


class PlainTest(Checks, unittest.TestCase):
    def test_most_nodes(self):
        self.assertEqual(MOST_NODES, 1000)

    def test_place_by_place(self):
        for one, most in KINDS:
            for size in range(1, most + 1):
                tree = plain_by_words(one, size)
                self.assertLessEqual(places_in(tree), 1000)
                self.assertEqual(plain(kind=one, size=size), tree)
                words = [below[0] for path, below in trees_in(tree)]
                many = tuple(words.count(word) for word in ("fresh", "broken", "model"))
                self.assertEqual(nodes(kind=one, size=size), many)
                self.assertIsNone(search_judged(one, size, tree))

    def test_broken_at_the_begin(self):
        self.assertEqual(plain(kind("f/1", "x = y"), 2), ("broken", 0, (0, 1)))
        self.assertEqual(plain(kind("f/1", "f(x) = f(x)", "u = z"), 6), ("broken", 1, (0, 1)))
        self.assertEqual(plain(kind("f/1", "x = y"), 1), ("fresh", "f", (0,), [("model", ((0,),))]))

    def test_the_least_equation_ahead_of_the_least_worths(self):
        for lines, leaf in [(("f(x) = e", "f(x) = f(y)"), ("broken", 0, (1,))),
                            (("f(x) = f(y)", "f(x) = e"), ("broken", 0, (0, 1)))]:
            tree = plain(kind("e/0 f/1", *lines), 2)
            self.assertEqual(tree[3][0][3][0], ("fresh", "f", (1,), [("model", ((0,), (0, 0))), leaf]))

    def test_let_by_and_refused(self):
        self.assertEqual(sum(nodes(kind("e/0 f/1"), 5)), 754)
        self.assertEqual(places_in(plain(kind("e/0 f/1"), 5)), 754)
        refused = kind("a/0 b/0 m/2 n/2")
        self.assertEqual(places_in(plain_by_words(refused, 2)), 1024)
        for function in (plain, nodes, search):
            self.refuses(TooMany, function, refused, 2)
            self.refuses(TooMany, function, kind("f/1"), 6)
            self.refuses(TooMany, function, GROUP, 4)

    def test_just_at_the_bound(self):
        for size, lines in [(3, ("f/1 g/1 h/1", "f(h(x)) = h(x)", "g(z) = h(g(z))")),
                            (3, ("f/1 g/1 h/1", "h(y) = h(h(z))", "h(g(y)) = y")),
                            (3, ("f/1 g/1 h/1", "g(x) = g(h(z))", "f(y) = f(g(y))"))]:
            self.assertEqual(places_in(plain_by_words(kind(*lines), size)), 1000)
            self.assertEqual(sum(nodes(kind(*lines), size)), 1000)
            self.assertEqual(places_in(plain(kind(*lines), size)), 1000)
        for size, lines in [(5, ("f/1 g/1 h/1", "z = g(z)", "h(h(h(x))) = x", "f(h(z)) = h(f(x))")),
                            (4, ("m/2 n/2", "m(y, y) = n(z, x)", "m(n(y, y), x) = n(y, z)", "m(z, y) = n(x, y)"))]:
            self.assertEqual(places_in(plain_by_words(kind(*lines), size)), 1001)
            for function in (plain, nodes, search):
                self.refuses(TooMany, function, kind(*lines), size)

    def test_the_greatest_soon(self):
        four = ["m(m(x, y), m(z, w)) = m(m(x, z), m(y, w))"] * 4 + ["m(m(m(x, y), z), w) = m(x, m(y, m(z, w)))"] * 4
        self.refuses(TooMany, nodes, kind("m/2 n/2 o/2 p/2"), 6)
        self.refuses(TooMany, nodes, kind("m/2 n/2 o/2 p/2", *four), 6)
        deep = kind("m/2 n/2 o/2 p/2", "m(x, y) = n(z, w)", "n(x, y) = x")
        self.assertEqual(nodes(deep, 6)[2], 0)

    def test_search(self):
        for one, most in KINDS:
            for size in range(1, most + 1):
                paper = search(kind=one, size=size)
                self.assertIsNone(search_judged(one, size, paper))
                self.assertLessEqual(places_in(paper), sum(nodes(one, size)))
                told = shown(one, size, paper)
                self.assertEqual(told, shown(one, size, plain(one, size)))
                self.assertGreaterEqual(len(leaves(one, size, paper)), len(told))

    def test_refusals(self):
        for function in (plain, nodes, search):
            self.refuses(NoKind, function, None, None)
            self.refuses(NoKind, function, nested(300), 0)
            for size in NO_SIZES:
                self.refuses(NoSize, function, GROUP, size)

    def test_lists_are_own(self):
        for function in (plain, nodes, search):
            self.own(function, GROUP, 2)
            self.own(function, kind("a/0 f/1"), 3)


if __name__ == "__main__":
    unittest.main()
