"""Point 25: papers grown."""

import unittest

from deedworlds.errors import NoKind, NoSearch, NoSize, TooMany
from deedworlds.grown import MOST_GROWN, grown
from deedworlds.plain import plain
from deedworlds.search import leaves, search_judged, shown
from tests.helpers import Checks, called, every_tables, fixed_chance, kept, kind, nested
from tests.papers import numbers_for, places_in, some_paper, trees_in

KINDS = [kind("f/1"), kind("e/0 f/1", "f(f(x)) = f(x)"), kind("f/1 e/0", "f(f(x)) = x", "f(e) = e"),
         kind("e/0 c/0 f/1", "f(e) = c"), kind("m/2", "m(x, x) = x"), kind("a/0 b/0 c/0"),
         kind("f/1 e/0", "x = y"), kind("f/1 g/1", "f(g(x)) = x")]


def exchanged(signature, size, tree, order):
    """A grown tree with two numbers exchanged all through it."""
    if tree[0] == "broken":
        return ("broken", tree[1], tuple(order[number] for number in tree[2]))
    if tree[0] == "model":
        return ("model", called(signature, (size, tree[1]), order)[1])
    word, name, args, trees = tree
    trees = [exchanged(signature, size, trees[order[number]], order) for number in range(size)]
    return ("cell", name, tuple(order[number] for number in args), trees)


def grown_by_words(signature, size, tree, known):
    """The grown tree, made place by place as point 25 tells it."""
    if tree[0] in ("broken", "model"):
        return tree
    word, name, args, trees = tree
    numbers = numbers_for(word, size, known, args)
    told = {number: grown_by_words(signature, size, below, {**known, (name, args): number})
            for number, below in zip(numbers, trees)}
    free = numbers[-1]
    for number in range(size):
        if number not in told:
            order = list(range(size))
            order[free], order[number] = number, free
            told[number] = exchanged(signature, size, told[free], order)
    return ("cell", name, args, [told[number] for number in range(size)])


class GrownTest(Checks, unittest.TestCase):
    def check(self, one, size, paper):
        told = grown(kind=one, size=size, paper=paper)
        self.assertEqual(told, grown_by_words(one[0], size, paper, {}))
        self.assertIsNone(search_judged(one, size, told))
        self.assertNotIn("fresh", [tree[0] for path, tree in trees_in(told)])
        models = [(size, tables) for tables in every_tables(one[0], size) if kept(one, (size, tables))]
        self.assertEqual(sorted(leaves(one, size, told)), models)
        self.assertEqual(shown(one, size, told), shown(one, size, paper))
        self.assertEqual(grown(one, size, told), told)

    def test_plain_trees(self):
        for one in KINDS:
            for size in (1, 2, 3):
                if size < 3 or one != KINDS[4]:
                    self.check(one, size, plain(one, size))
        self.check(KINDS[0], 4, plain(KINDS[0], 4))

    def test_papers_of_chance(self):
        chance = fixed_chance()
        for one in KINDS:
            for size in (1, 2, 3):
                if sum(size ** places for name, places in one[0]) < 7:
                    for words in [("cell",), ("fresh",), ("cell", "fresh"), ("cell", "fresh")]:
                        self.check(one, size, some_paper(chance, one, size, words))

    def test_small_one(self):
        self.assertEqual(grown(kind("a/0"), 3, ("fresh", "a", (), [("model", ((0,),))])),
                         ("cell", "a", (), [("model", ((0,),)), ("model", ((1,),)), ("model", ((2,),))]))

    def test_just_below_the_bound(self):
        self.assertEqual(MOST_GROWN, 20000)
        one = kind("e/0 f/1")
        told = grown(one, 5, plain(one, 5))
        self.assertEqual(places_in(told), 1 + 5 * (5 ** 6 - 1) // 4)
        self.assertIsNone(search_judged(one, 5, told))
        self.assertEqual(len(leaves(one, 5, told)), 5 ** 6)
        self.assertEqual(grown(one, 5, told), told)

    def test_too_many(self):
        one = kind("a/0 b/0 f/1", "f(f(x)) = x")
        paper = plain(one, 6)
        self.assertLess(places_in(paper), 1000)
        self.refuses(TooMany, grown, one, 6, paper)
        self.assertEqual(len(leaves(one, 5, grown(one, 5, plain(one, 5)))), 5 * 5 * 26)

    def wide(self, many):
        """A right paper of size 5 for x = y: 19,531 places, and five more for each of so many leaves."""
        leaf, left = ("broken", 0, (0, 1)), [many]

        def tree(cells):
            if cells:
                return ("cell",) + cells[0] + ([tree(cells[1:]) for number in range(5)],)
            left[0] -= 1
            return ("cell", "g", (0,), [leaf] * 5) if left[0] >= 0 else leaf
        return tree([("e", ())] + [("f", (k,)) for k in range(5)])

    def test_bound_of_papers_without_fresh(self):
        same = kind("f/1 g/1 e/0", "x = y")
        below, above = self.wide(93), self.wide(94)
        self.assertEqual((places_in(below), places_in(above)), (19996, 20001))
        self.assertEqual(grown(same, 5, below), below)
        self.assertIsNone(search_judged(same, 5, above))
        self.refuses(TooMany, grown, same, 5, above)

    def test_refusals(self):
        one = kind("f/1")
        self.refuses(NoKind, grown, None, None, None)
        for size in [0, 7, True, None]:
            self.refuses(NoSize, grown, one, size, None)
        for paper in [None, ("broken", 0, ()), ("cell", "f", (0,), []), nested(300)]:
            told = self.refuses(NoSearch, grown, one, 2, paper)
            self.assertEqual(told.wrong, search_judged(one, 2, paper))

    def test_lists_are_own(self):
        for one in KINDS[:4]:
            self.own(grown, one, 3, plain(one, 3))
        tree = ("cell", "f", (0,), [("cell", "e", (), [("broken", 0, (0, 1))] * 2)] * 2)
        self.own(grown, KINDS[6], 2, tree)


if __name__ == "__main__":
    unittest.main()
