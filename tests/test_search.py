"""Points 18 to 21: cells, search papers judged, their leaves and what they show."""

import unittest

from deedworlds.errors import NoKind, NoSearch, NoSignature, NoSize
from deedworlds.search import cells_of, leaves, search_judged, shown
from tests.helpers import M, Checks, every_tables, fixed_chance, kept, kind, least, nested
from tests.papers import cells_by_words, judged_by_words, some_paper, trees_in, with_tree

NO_SIZES = [0, 7, -1, True, False, None, "2", (2,), 10 ** 29, nested(300)]
F = kind("f/1")
FF = kind("f/1", "f(f(x)) = x")
SEMI = kind("m/2", "m(m(x, y), z) = m(x, m(y, z))")
EF = kind("e/0 f/1", "f(f(x)) = f(x)", "f(e) = e")
TWO = kind("f/1 e/0", "f(f(x)) = x")
SAME = kind("f/1 e/0", "x = y")
KINDS = [F, FF, EF, TWO, SAME, kind("e/0 c/0 f/1", "f(e) = c", "f(c) = e"), kind("m/2 e/0", "m(x, x) = e"),
         kind("f/1 g/1", "f(g(x)) = x"), kind("a/0 b/0 c/0"), kind("f/1 e/0", "x = f(f(x))", "e = x"),
         kind("f/1 g/1", "f(x) = g(x)")]


class CellsTest(Checks, unittest.TestCase):
    def test_in_order(self):
        self.assertEqual(cells_of((("m", 2), ("f", 1), ("e", 0), ("c", 0)), 2), [
            ("e", ()), ("c", ()), ("m", (0, 0)), ("f", (0,)),
            ("m", (0, 1)), ("m", (1, 0)), ("m", (1, 1)), ("f", (1,))])
        self.assertEqual(cells_of(signature=(("f", 1), ("m", 2)), size=3), [
            ("f", (0,)), ("m", (0, 0)), ("f", (1,)), ("m", (0, 1)), ("m", (1, 0)), ("m", (1, 1)),
            ("f", (2,)), ("m", (0, 2)), ("m", (1, 2)), ("m", (2, 0)), ("m", (2, 1)), ("m", (2, 2))])
        for signature in [M, (("f", 1), ("e", 0), ("m", 2), ("c", 0))]:
            for size in range(1, 7):
                self.assertEqual(cells_of(signature, size), cells_by_words(signature, size))

    def test_refusals(self):
        self.refuses(NoSignature, cells_of, None, 0)
        for size in NO_SIZES:
            self.refuses(NoSize, cells_of, M, size)

    def test_lists_are_own(self):
        self.own(cells_of, M, 3)


class JudgedTest(Checks, unittest.TestCase):
    def test_refusals(self):
        for function in (search_judged, leaves, shown):
            self.refuses(NoKind, function, None, 0, None)
            self.refuses(NoKind, function, (M, None), 2, None)
            for size in NO_SIZES:
                self.refuses(NoSize, function, F, size, None)

    def test_form(self):
        for thing in [None, True, 7, "model", (), [], ("model",), ["model", ((0,),)], ("model", [(0,)]),
                      ("model", ((0,),), 0), ("broken", 0), ("broken", True, ()), ("broken", "0", ()),
                      ("broken", 0, []), ("broken", 0, (), ()), ("broken", None, ()), ("cell", "f", (0,)),
                      ("cell", "f", [0], []), ("cell", "f", (0,), ()), ("cell", None, (0,), []),
                      ("fresh", ["f"], (0,), []), ("fresh", "f", (0,), [], []), ("Fresh", "f", (0,), []),
                      (["cell"], "f", (0,), []), (None, (0,)), ("leaf", ()), nested(300)]:
            self.assertEqual(search_judged(F, 1, thing), ("paper",), thing)
            self.assertEqual(search_judged(F, 1, ("cell", "f", (0,), [thing])), ("paper",), thing)
            self.assertEqual(search_judged(F, 2, ("cell", "g", (0,), [("model", ()), thing])), ("paper",), thing)

    def test_form_of_a_deep_thing(self):
        tree = ("broken", 0, ())
        for step in range(149):
            tree = ("cell", "f", (step % 3,), [tree])
        self.assertEqual(search_judged(F, 3, tree), ("tree", ()))
        tree = ("model", [])
        for step in range(149):
            tree = ("cell", "f", (step % 3,), [tree])
        self.assertEqual(search_judged(F, 3, tree), ("paper",))

    def test_one_number(self):
        self.assertIsNone(search_judged(kind=F, size=1, paper=("cell", "f", (0,), [("model", ((0,),))])))
        self.assertIsNone(search_judged(F, 1, ("fresh", "f", (0,), [("model", ((0,),))])))
        for tables in [((False,),), ((0,), ()), ((1,),), (0,), ([0],), (), (((0,),),)]:
            paper = ("cell", "f", (0,), [("model", tables)])
            self.assertEqual(search_judged(F, 1, paper), ("tree", (0,)), tables)

    def test_a_cell_that_is_none_or_known(self):
        below = ("model", ((0, 0),))
        for name, args in [("g", (0,)), ("", (0,)), ("f", ()), ("f", (0, 0)), ("f", (2,)), ("f", (-1,)),
                           ("f", (True,)), ("f", (False,)), ("f", ("0",)), ("f", ([0],)), ("f", (None,))]:
            self.assertEqual(search_judged(F, 2, ("cell", name, args, [below, below])), ("tree", ()))
            self.assertEqual(search_judged(F, 2, ("fresh", name, args, [below, below])), ("tree", ()))
        twice = ("cell", "f", (0,), [below, below])
        self.assertEqual(search_judged(F, 2, ("cell", "f", (0,), [twice, twice])), ("tree", (0,)))

    def test_how_many_trees(self):
        leaf = ("broken", 0, (0, 1))
        for many in range(5):
            wanted = None if many == 3 else ("tree", ())
            self.assertEqual(search_judged(SAME, 3, ("cell", "f", (1,), [leaf] * many)), wanted)
            wanted = None if many == 2 else ("tree", ())
            self.assertEqual(search_judged(SAME, 3, ("fresh", "f", (1,), [leaf] * many)), wanted)
            wanted = None if many == 1 else ("tree", ())
            self.assertEqual(search_judged(SAME, 3, ("fresh", "e", (), [leaf] * many)), wanted)

    def test_used_numbers_need_not_begin_with_nought(self):
        leaf = ("broken", 0, (0, 1))
        last = ("fresh", "f", (2,), [leaf] * 2)
        others = ("fresh", "f", (2,), [leaf] * 3)
        self.assertIsNone(search_judged(SAME, 3, ("cell", "e", (), [others, others, last])))
        self.assertEqual(search_judged(SAME, 3, ("cell", "e", (), [others, last, last])), ("tree", (1,)))
        # behind f(2) known by 0, the least number that wasn't used, the numbers 0 and 2 are used
        paper = ("fresh", "f", (2,), [("fresh", "e", (), [("model", ((2, 2, 2), (0,)))] * 2)] * 2)
        self.assertEqual(search_judged(F, 3, ("fresh", "f", (2,), [("broken", 0, (0,))] * 2)), ("tree", (0,)))
        self.assertEqual(search_judged(SAME, 3, paper), ("tree", (0, 0)))

    def test_broken(self):
        self.assertIsNone(search_judged(SAME, 2, ("broken", 0, (0, 1))))
        for i, worths in [(1, (0, 1)), (-1, (0, 1)), (10 ** 29, (0, 1)), (0, ()), (0, (0,)), (0, (0, 0)),
                          (0, (0, 1, 0)), (0, (0, 2)), (0, (False, 1)), (0, (0, True)), (0, (-1, 0)),
                          (0, ("0", "1")), (0, ([0], 1))]:
            self.assertEqual(search_judged(SAME, 2, ("broken", i, worths)), ("tree", ()), (i, worths))

    def test_broken_where_a_side_is_not_known(self):
        known = ("cell", "f", (1,), [("broken", 0, (0,)), ("broken", 0, (0,))])
        paper = ("cell", "f", (0,), [known, known])
        self.assertEqual(search_judged(FF, 2, paper), ("tree", (0, 0)))
        self.assertEqual(search_judged(FF, 2, ("cell", "f", (0,), [("broken", 0, (0,)), known])), ("tree", (0,)))

    def test_broken_where_just_one_side_is_known(self):
        one = kind("f/1 g/1", "f(x) = g(x)")
        for name in ("f", "g"):
            paper = ("fresh", name, (0,), [("broken", 0, (0,)), ("broken", 0, (0,))])
            self.assertEqual(search_judged(one, 2, paper), ("tree", (0,)))
        one = kind("f/1 e/0", "f(x) = x", "e = x")
        for i, worths in [(0, (0,)), (0, (1,)), (1, (0,)), (1, (1,))]:
            self.assertEqual(search_judged(one, 2, ("broken", i, worths)), ("tree", ()))

    def test_model_leaves(self):
        right = ("cell", "f", (0,), [
            ("cell", "f", (1,), [("broken", 0, (1,)), ("model", ((0, 1),))]),
            ("cell", "f", (1,), [("model", ((1, 0),)), ("broken", 0, (0,))])])
        self.assertIsNone(search_judged(FF, 2, right))
        self.assertEqual(leaves(FF, 2, right), [(2, ((0, 1),)), (2, ((1, 0),))])
        for path, leaf in [((0,), ("model", ((0, 1),))), ((0, 0), ("model", ((0, 0),))),
                           ((0, 1), ("model", ((1, 0),))), ((0, 1), ("model", ((False, True),))),
                           ((1, 0), ("model", ((1, 0), ()))), ((1, 1), ("model", ((1, 1),)))]:
            self.assertEqual(search_judged(FF, 2, with_tree(right, path, leaf)), ("tree", path))

    def test_the_least_place_in_the_order_of_lists(self):
        odd = ("broken", 5, ())
        right = ("cell", "e", (), [("cell", "f", (0,), [("broken", 0, (0, 1))] * 2)] * 2)
        self.assertIsNone(search_judged(SAME, 2, right))
        for paths in [[(1,), (0, 1)], [(1, 0), (1, 1)], [(1, 1), (0, 0), (0, 1)]]:
            paper = right
            for path in paths:
                paper = with_tree(paper, path, odd)
            self.assertEqual(search_judged(SAME, 2, paper), ("tree", min(paths)))

    def test_equations_broken_early_and_late(self):
        chance = fixed_chance()
        for one in KINDS:
            for size in (1, 2, 3):
                for words in [("cell",), ("fresh",), ("cell", "fresh")]:
                    for early in (0, 0.5, 1):
                        if size < 3 or sum(size ** places for name, places in one[0]) < 6:
                            paper = some_paper(chance, one, size, words, early)
                            self.assertIsNone(search_judged(one, size, paper))

    def test_right_for_another_kind_or_size(self):
        chance = fixed_chance()
        for step in range(60):
            one, other = chance.sample(KINDS, 2)
            paper = some_paper(chance, one, 2)
            self.assertEqual(search_judged(other, 2, paper), judged_by_words(other, 2, paper))
            self.assertEqual(search_judged(one, 3, paper), judged_by_words(one, 3, paper))
            self.assertEqual(search_judged(one, 1, paper), judged_by_words(one, 1, paper))
        paper = some_paper(chance, TWO, 2, ("cell",), 1)
        self.assertEqual(search_judged(TWO, 3, paper), ("tree", ()))

    def test_changed_papers_against_the_words(self):
        chance = fixed_chance()
        for one in KINDS:
            for step in range(60):
                size = chance.choice([2, 2, 3]) if len(cells_by_words(one[0], 3)) < 5 else 2
                paper = some_paper(chance, one, size)
                for change in range(chance.randint(1, 2)):
                    path, tree = chance.choice(list(trees_in(paper)))
                    paper = with_tree(paper, path, self.changed(chance, one, size, tree))
                self.assertEqual(search_judged(one, size, paper), judged_by_words(one, size, paper))

    def changed(self, chance, one, size, tree):
        """Another tree, mostly of the right form."""
        number = chance.choice([0, 1, 2, 3, True, False, -1])
        if tree[0] == "broken":
            return chance.choice([("broken", number, tree[2]), ("broken", tree[1], tree[2] + (number,)),
                                  ("broken", tree[1], tree[2][:-1] + (number,)), ("model", ((0, 0),)),
                                  ("broken", tree[1], tree[2][::-1])])
        if tree[0] == "model":
            tables = [list(table) for table in tree[1]]
            table = chance.choice(tables)
            table[chance.randrange(len(table))] = number
            return ("model", tuple(tuple(table) for table in tables))
        word, name, args, trees = tree
        other, row = chance.choice(cells_by_words(one[0], size))
        return chance.choice([(word, other, row, trees), (word, name, args, trees[:-1]),
                              (word, name, args, trees + trees[:1]), (word, name, args, trees[::-1]),
                              ("cell", name, args, trees), ("fresh", name, args, trees), trees[0],
                              (word, name, args[:-1] + (number,), trees)])


class ShownTest(Checks, unittest.TestCase):
    def test_no_search(self):
        for paper in [None, ("broken", 0, ()), ("model", ()), ("cell", "f", (0,), []), nested(300),
                      ("cell", "f", (0,), [("model", ((0, 0),)), None])]:
            for function in (leaves, shown):
                told = self.refuses(NoSearch, function, FF, 2, paper)
                self.assertEqual(told.wrong, search_judged(FF, 2, paper))
                self.assertIsNotNone(told.wrong)

    def test_leaves_in_their_order(self):
        chance = fixed_chance()
        for one in KINDS:
            paper = some_paper(chance, one, 2)
            wanted = [(2, tree[1]) for path, tree in trees_in(paper) if tree[0] == "model"]
            self.assertEqual(leaves(kind=one, size=2, paper=paper), wanted)

    def test_shown_against_all_models(self):
        chance = fixed_chance()
        for one in KINDS:
            for size in (1, 2, 3):
                if size < 3 or len(cells_by_words(one[0], 3)) < 6:
                    models = [(size, tables) for tables in every_tables(one[0], size) if kept(one, (size, tables))]
                    wanted = sorted({least(one[0], model) for model in models})
                    for words in [("cell",), ("fresh",), ("cell", "fresh")]:
                        paper = some_paper(chance, one, size, words)
                        self.assertEqual(shown(kind=one, size=size, paper=paper), wanted)
                    every = leaves(one, size, some_paper(chance, one, size, ("cell",)))
                    self.assertEqual(sorted(every), models)

    def test_many_leaves_soon(self):
        paper = some_paper(fixed_chance(), F, 5, ("cell",))
        self.assertEqual(len(leaves(F, 5, paper)), 5 ** 5)
        self.assertEqual(len(shown(F, 5, paper)), 47)

    def test_lists_are_own(self):
        paper = some_paper(fixed_chance(), TWO, 2)
        for function in (search_judged, leaves, shown):
            self.own(function, TWO, 2, paper)

    def test_a_paper_that_is_changed_behind(self):
        paper = some_paper(fixed_chance(), F, 2, ("cell",))
        told = leaves(F, 2, paper)
        paper[3].clear()
        self.assertEqual(len(told), 4)
        self.assertEqual(search_judged(F, 2, paper), ("tree", ()))


if __name__ == "__main__":
    unittest.main()
