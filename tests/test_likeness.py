"""Point 14: likeness, and papers on it judged."""

import copy
import itertools
import unittest

from deedworlds.errors import NoModel, NoSignature
from deedworlds.likeness import likeness, likeness_judged
from tests.helpers import MFE, Checks, called, every_tables, fixed_chance, least, nested, some_model

F = (("f", 1),)
FE = (("f", 1), ("e", 0))
ID, SWAP = (3, ((0, 1, 2),)), (3, ((1, 0, 2),))


def right_clash(signature, one, other, images, tree):
    """Whether a clash is right, by the words of point 14; images is a dict."""
    if type(tree) is not tuple or len(tree) != 3 or tree[0] != "clash":
        return False
    places = dict(signature)
    word, name, numbers = tree
    if type(name) is not str or name not in places or type(numbers) is not tuple or len(numbers) != places[name]:
        return False
    if any(type(number) is not int or number not in images for number in numbers):
        return False
    at = to = 0
    for number in numbers:
        at, to = at * one[0] + number, to * one[0] + images[number]
    k = list(places).index(name)
    made, there = one[1][k][at], other[1][k][to]
    return images[made] != there if made in images else there in images.values()


def odd_places(signature, one, other, images, tree, path=()):
    """All places that aren't right, below right cases alone."""
    lacking = [number for number in range(one[0]) if number not in images]
    free = [number for number in range(one[0]) if number not in images.values()]
    if (type(tree) is tuple and len(tree) == 2 and tree[0] == "case" and lacking and type(tree[1]) is list
            and len(tree[1]) == len(free)):
        for k, number in enumerate(free):
            yield from odd_places(signature, one, other, {**images, lacking[0]: number}, tree[1][k], path + (k,))
    elif not right_clash(signature, one, other, images, tree):
        yield path


def least_odd(signature, one, other, tree):
    return min(odd_places(signature, one, other, {}, tree), default=None)


def places_of(tree, path=()):
    """All lists of trees, with the paths of their trees."""
    if type(tree) is tuple and len(tree) == 2 and type(tree[1]) is list:
        for k, below in enumerate(tree[1]):
            yield tree[1], k, path + (k,)
            yield from places_of(below, path + (k,))


class LikenessTest(Checks, unittest.TestCase):
    def check(self, signature, one, other):
        told = likeness(signature, one, other)
        self.assertIsNone(likeness_judged(signature, one, other, told))
        if one[0] != other[0]:
            self.assertEqual(told, ("size",))
        elif least(signature, one) == least(signature, other):
            self.assertEqual(told[0], "map")
            self.assertEqual(called(signature, one, told[1]), other)
        else:
            self.assertEqual((told[0], len(told)), ("none", 2))
            self.assertIsNone(least_odd(signature, one, other, told[1]))

    def test_each_kind(self):
        self.check(F, (2, ((0, 0),)), (3, ((0, 0, 0),)))
        self.check(F, SWAP, (3, ((0, 2, 1),)))
        self.check(F, ID, SWAP)
        self.assertEqual(likeness(signature=F, one=ID, other=ID)[0], "map")

    def test_all_pairs_of_small_ones(self):
        models = [(size, tables) for size in (1, 2, 3) for tables in every_tables(FE, size)]
        for at, (one, other) in enumerate(itertools.product(models, repeat=2)):
            if at % 5 == 0:
                self.check(FE, one, other)

    def test_greater_ones(self):
        chance = fixed_chance()
        for size in (4, 5, 6):
            for step in range(6):
                model = some_model(chance, MFE, size)
                order = tuple(chance.sample(range(size), size))
                other = called(MFE, model, order)
                self.check(MFE, model, other)
                table = list(other[1][0])
                table[-1] = (table[-1] + 1) % size
                self.check(MFE, model, (size, (tuple(table),) + other[1][1:]))

    def test_six_numbers_with_many_own_orders(self):
        first = tuple(a for a in range(6) for b in range(6))
        self.check((("m", 2), ("f", 1)), (6, (first, (1, 2, 3, 4, 5, 0))), (6, (first, (1, 2, 0, 4, 5, 3))))
        self.check((("m", 2), ("f", 1)), (6, (first, (1, 0, 3, 2, 5, 4))), (6, (first, (3, 4, 5, 0, 1, 2))))

    def test_refusals(self):
        for function in (likeness, lambda *things: likeness_judged(*things, None)):
            self.refuses(NoSignature, function, None, None, None)
            self.refuses(NoModel, function, F, None, ID)
            self.refuses(NoModel, function, F, ID, None)
            self.refuses(NoModel, function, F, ID, (3, ((0, 1, True),)))

    def test_lists_are_own(self):
        self.own(likeness, F, ID, SWAP)
        self.own(likeness_judged, F, ID, SWAP, ("none", ("case", [("case", []), ("case", [])])))


class JudgedTest(Checks, unittest.TestCase):
    def test_paper(self):
        for paper in [None, True, 7, "map", (), [], ("map",), ("none",), ("size", 3), ("map", (0,), 1), ["size"],
                      ["map", (0, 1, 2)], ("Map", (0, 1, 2)), ("case", []), (True,), (["size"],), (None, None),
                      nested(300)]:
            self.assertEqual(likeness_judged(F, ID, ID, paper), ("paper",), paper)
            self.assertEqual(likeness_judged(F, ID, (1, ((0,),)), paper), ("paper",), paper)

    def test_size(self):
        self.assertEqual(likeness_judged(F, ID, SWAP, ("size",)), ("size",))
        self.assertEqual(likeness_judged(F, ID, (1, ((0,),)), ("map", None)), ("size",))
        self.assertEqual(likeness_judged(F, ID, (1, ((0,),)), ("none", None)), ("size",))
        self.assertIsNone(likeness_judged(signature=F, one=ID, other=(1, ((0,),)), paper=("size",)))

    def test_map(self):
        self.assertIsNone(likeness_judged(F, SWAP, (3, ((0, 2, 1),)), ("map", (1, 2, 0))))
        for order in [None, (), (0, 1), [1, 2, 0], (1, 2, 3), (1, 1, 0), (True, 2, 0), (1, 2, False), (0, 1, 2),
                      (1, 2, 0, 3), "120", nested(299)]:
            self.assertEqual(likeness_judged(F, SWAP, (3, ((0, 2, 1),)), ("map", order)), ("map",), order)

    def test_tree_at_the_begin(self):
        for tree in [None, True, (), [], "case", ("case",), ("case", ()), ("case", []), ("case", [None] * 2),
                     ("case", [None] * 4), ("case", [None] * 3, 0), ["case", [None] * 3], ("clash", "f", ()),
                     ("case", (None,) * 3), ("clash", "f", (0,)), ("clash",), ("map", (0, 1, 2)), ("Case", [None] * 3), nested(299)]:
            self.assertEqual(likeness_judged(F, ID, SWAP, ("none", tree)), ("tree", ()), tree)

    def test_a_wrong_tree_of_alike_ones(self):
        tree = ("case", [("clash", "f", (0,)) for k in range(3)])
        self.assertEqual(likeness_judged(F, ID, ID, ("none", tree)), ("tree", (0,)))

    def test_constants_clash_at_the_begin_only_with_an_image(self):
        signature = (("e", 0), ("c", 0))
        one, other = (2, ((0,), (0,))), (2, ((0,), (1,)))
        self.assertEqual(likeness_judged(signature, one, other, ("none", ("clash", "e", ()))), ("tree", ()))
        tree = ("case", [("clash", "c", ()), ("clash", "e", ())])
        self.assertIsNone(likeness_judged(signature, one, other, ("none", tree)))
        tree = ("case", [("clash", "e", ()), ("clash", "c", ())])
        self.assertEqual(likeness_judged(signature, one, other, ("none", tree)), ("tree", (0,)))
        tree = ("case", [("clash", "c", ()), ("clash", "c", ())])
        self.assertEqual(likeness_judged(signature, one, other, ("none", tree)), ("tree", (1,)))

    def test_other_words_and_forms_of_a_right_clash(self):
        signature = (("e", 0), ("c", 0))
        one, other = (2, ((0,), (0,))), (2, ((0,), (1,)))
        for tree in [("Clash", "c", ()), ("case", "c", ()), (None, "c", ()), ["clash", "c", ()], ("clash", "c", []),
                     ("clash", "c", (), ()), ("clash", "c"), ("clash", ("c",), ()), ("clash", "c", (0,)),
                     ("clash", "c", None)]:
            paper = ("none", ("case", [tree, ("clash", "e", ())]))
            self.assertEqual(likeness_judged(signature, one, other, paper), ("tree", (0,)), tree)

    def test_truths_in_a_right_clash(self):
        one, other = (2, ((0, 0),)), (2, ((1, 1),))
        self.assertIsNone(likeness_judged(F, (2, ((0, 1),)), (2, ((1, 0),)), (
            "none", ("case", [("clash", "f", (0,)), ("clash", "f", (0,))]))))
        for numbers in [(False,), (1,), (-1,), (True,)]:
            paper = ("none", ("case", [("clash", "f", numbers), ("clash", "f", (0,))]))
            self.assertEqual(likeness_judged(F, (2, ((0, 1),)), (2, ((1, 0),)), paper), ("tree", (0,)), numbers)
        self.assertEqual(likeness(F, one, other), ("map", (1, 0)))

    def test_no_case_where_all_have_images(self):
        signature = (("e", 0), ("c", 0))
        one, other = (1, ((0,), (0,))), (1, ((0,), (0,)))
        self.assertEqual(likeness_judged(signature, one, other, ("none", ("case", [("case", [])]))), ("tree", (0,)))

    def test_changed_trees_against_the_words(self):
        chance = fixed_chance()
        first = tuple(a for a in range(4) for b in range(4))
        second = tuple((a + b) % 4 for a in range(4) for b in range(4))
        pairs = [(F, ID, SWAP), (F, (4, ((1, 0, 3, 2),)), (4, ((1, 2, 3, 0),))),
                 (MFE, (4, (first, (1, 2, 3, 0), (0,))), (4, (first, (1, 0, 3, 2), (0,)))),
                 (MFE, (4, (second, (0, 0, 0, 0), (1,))), (4, (second, (0, 0, 0, 0), (2,))))]
        for signature, one, other in pairs:
            told = likeness(signature, one, other)
            self.assertEqual(told[0], "none")
            for step in range(150):
                paper = copy.deepcopy(told)
                for change in range(chance.randint(1, 3)):
                    self.change(chance, signature, paper[1])
                path = least_odd(signature, one, other, paper[1])
                wanted = None if path is None else ("tree", path)
                self.assertEqual(likeness_judged(signature, one, other, paper), wanted)

    def change(self, chance, signature, tree):
        """Change a tree at some place: a list that is longer or shorter, or another thing in it."""
        places = list(places_of(tree))
        if not places:
            return
        row, k, path = chance.choice(places)
        name, many = chance.choice(signature)
        numbers = tuple(chance.choice([0, 1, 2, 3, 4, True, False, -1]) for step in range(many))
        chosen = chance.randrange(8)
        if chosen == 0:
            row.append(("clash", name, numbers))
        elif chosen == 1:
            row.pop()
        elif chosen == 2:
            row[k] = chance.choice([None, ("case", []), ("clash", name), [], ("clash", [name], numbers), 3])
        elif chosen == 3:
            row[k] = ("clash", name, list(numbers))
        elif chosen == 4:
            row[k] = ("clash", "n", numbers)
        elif chosen == 5:
            row[k] = ("case", [("clash", name, numbers) for step in range(chance.randint(0, 3))])
        else:
            row[k] = ("clash", name, numbers)


if __name__ == "__main__":
    unittest.main()
