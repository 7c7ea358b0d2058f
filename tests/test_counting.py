"""Points 26 and 27: all models, counted."""

import unittest

from deedworlds.counting import all_models, all_told, how_many, model_of, number_of, spectrum
from deedworlds.errors import NoKind, NoModel, NoNumber, NoSize, TooMany
from deedworlds.maps import renamings
from deedworlds.plain import plain
from deedworlds.search import shown
from tests.helpers import Checks, called, every_tables, fixed_chance, kept, kind, least, nested

SEMI = kind("m/2", "m(m(x, y), z) = m(x, m(y, z))")
GROUP = kind("m/2 i/1 e/0", "m(e, x) = x", "m(i(x), x) = e", "m(m(x, y), z) = m(x, m(y, z))")
NO_SIZES = [0, 7, -1, True, None, "2", nested(300)]
KINDS = [(kind("f/1"), 4), (kind("e/0 f/1", "f(f(x)) = f(x)"), 4), (kind("f/1 g/1", "f(g(x)) = x"), 3),
         (kind("m/2"), 2), (SEMI, 2), (kind("e/0 c/0 f/1", "f(e) = c"), 3), (kind("f/1 e/0", "x = y"), 4),
         (kind("m/2 e/0", "m(x, e) = x", "m(x, x) = e"), 2), (kind("a/0 b/0 c/0 d/0"), 5), (GROUP, 2),
         (kind("f/1 e/0", "f(f(x)) = x", "f(e) = e"), 5), (kind("f/1 g/1"), 3)]


class CountingTest(Checks, unittest.TestCase):
    def test_against_all_tables(self):
        for one, most in KINDS:
            for size in range(1, most + 1):
                models = [(size, tables) for tables in every_tables(one[0], size) if kept(one, (size, tables))]
                told = all_models(kind=one, size=size)
                self.assertEqual(told, sorted({least(one[0], model) for model in models}))
                self.assertEqual(how_many(kind=one, size=size), len(told))
                self.assertEqual(all_told(kind=one, size=size), len(models))
                self.assertEqual(told, shown(one, size, plain(one, size)))

    def test_known_numbers(self):
        self.assertEqual([how_many(SEMI, size) for size in (1, 2, 3)], [1, 5, 24])
        self.assertEqual([all_told(SEMI, size) for size in (1, 2, 3)], [1, 8, 113])
        self.assertEqual([how_many(kind("f/1"), size) for size in (1, 2, 3, 4, 5)], [1, 3, 7, 19, 47])
        self.assertEqual(all_told(kind("f/1"), 5), 5 ** 5)
        self.assertEqual([how_many(GROUP, size) for size in (1, 2, 3)], [1, 1, 1])
        self.assertEqual(all_told(GROUP, 3), 3)
        self.assertEqual(all_told(kind("f/1", "f(f(x)) = x"), 6), 76)
        self.assertEqual(all_models(kind("f/1", "x = y"), 2), [])

    def test_back_and_forth(self):
        chance = fixed_chance()
        for one, most in KINDS:
            for k, model in enumerate(all_models(one, most)):
                self.assertEqual(model_of(kind=one, size=most, k=k), model)
                order = tuple(chance.sample(range(most), most))
                self.assertEqual(number_of(kind=one, size=most, model=called(one[0], model, order)), k)

    def test_all_told_is_the_sum_of_renamings(self):
        for one, most in KINDS:
            told = sum(renamings(one[0], model) for model in all_models(one, most))
            self.assertEqual(all_told(one, most), told)

    def test_no_number(self):
        for k in [-1, 5, 10 ** 29]:
            self.refuses(NoNumber, model_of, SEMI, 2, k)
        self.refuses(NoNumber, model_of, kind("f/1", "x = y"), 2, 0)

    def test_no_model(self):
        for model in [None, True, (), (2,), (2, ((0, 0, 0, True),)), (2, ((0, 0, 0),)), (2, [(0, 0, 0, 0)]),
                      (1, ((0,),)), (3, ((0,) * 9,)), (2, ((1, 1, 0, 0),)), (2, ((0, 0, 0, 0), (0,))), nested(300)]:
            self.refuses(NoModel, number_of, SEMI, 2, model)

    def test_order_of_refusals(self):
        for function in (all_models, how_many, all_told, lambda one, size: model_of(one, size, -1),
                         lambda one, size: number_of(one, size, None)):
            self.refuses(NoKind, function, None, None)
            self.refuses(NoKind, function, nested(300), 7)
            for size in NO_SIZES:
                self.refuses(NoSize, function, SEMI, size)
            self.refuses(TooMany, function, SEMI, 4)
            self.refuses(TooMany, function, kind("a/0 b/0 m/2 n/2"), 2)
        self.assertEqual(sum([how_many(kind("e/0 f/1"), 5)]), 175)

    def test_spectrum(self):
        self.assertEqual(spectrum(kind("f/1")), [1, 3, 7, 19, 47, None])
        self.assertEqual(spectrum(SEMI, most=3), [1, 5, 24])
        self.assertEqual(spectrum(kind=SEMI, most=4), [1, 5, 24, None])
        self.assertEqual(spectrum(kind("f/1", "f(f(x)) = x"), most=6), [1, 2, 2, 3, 3, 4])
        self.assertEqual(spectrum(kind("f/1", "x = y"), most=1), [1])

    def test_sizes_behind_a_none(self):
        one = kind("f/1 e/0", "x = y", "f(x) = x")
        self.assertEqual(spectrum(one), [1, 0, 0, 0, 0, 0])
        parity = kind("m/2 f/1", "m(x, y) = m(y, x)", "m(x, m(x, y)) = y", "m(x, x) = x")
        told = spectrum(parity)
        for size, many in enumerate(told, start=1):
            if many is None:
                self.refuses(TooMany, how_many, parity, size)
            else:
                self.assertEqual(how_many(parity, size), many)
        self.assertIn(None, told)
        self.assertIn(None, told[:-1])

    def test_spectrum_refuses(self):
        self.refuses(NoKind, spectrum, None, most=0)
        for most in NO_SIZES:
            self.refuses(NoSize, spectrum, SEMI, most=most)
        with self.assertRaises(TypeError):
            spectrum(SEMI, 3)

    def test_lists_are_own(self):
        self.own(all_models, SEMI, 2)
        self.own(spectrum, SEMI, most=3)
        self.own(model_of, SEMI, 2, 0)


if __name__ == "__main__":
    unittest.main()
