"""Point 43: how far models are, and the nearest ones of a kind."""

import unittest

from deedworlds.errors import NoKind, NoModel, NoNumber, NoSignature, NoSize, TooMany
from deedworlds.models import keeps
from deedworlds.nearest import far_from, mended, nearest
from tests.helpers import MFE, Checks, every_tables, fixed_chance, kept, kind, nested, some_model

F = (("f", 1),)
FF = kind("f/1", "f(f(x)) = x")
KINDS = [(FF, 4), (kind("f/1 e/0", "f(e) = e"), 3), (kind("m/2", "m(x, y) = m(y, x)"), 2), (kind("f/1", "x = y"), 3),
         (kind("m/2 e/0", "m(e, x) = x", "m(x, e) = x"), 2), (kind("f/1 g/1", "f(g(x)) = x"), 3),
         (kind("m/2", "m(m(x, y), z) = m(x, m(y, z))"), 2), (kind("f/1"), 4), (kind("a/0 b/0 c/0"), 4)]
MANY = kind("f/1 g/1")


def differing(one, other):
    return sum(left != right for first, second in zip(one[1], other[1]) for left, right in zip(first, second))


class FarTest(Checks, unittest.TestCase):
    def test_cells_counted(self):
        chance = fixed_chance(60)
        for step in range(60):
            size = chance.randrange(1, 7)
            one, other = some_model(chance, MFE, size), some_model(chance, MFE, size)
            self.assertEqual(far_from(signature=MFE, one=one, other=other), differing(one, other))
            self.assertEqual(far_from(MFE, other, one), differing(one, other))
            self.assertEqual(far_from(MFE, one, one), 0)
        self.assertEqual(far_from(F, (3, ((0, 1, 2),)), (3, ((0, 2, 1),))), 2)

    def test_refusals_in_order(self):
        one, two = (1, ((0,),)), (2, ((0, 1),))
        self.refuses(NoSignature, far_from, None, None, None)
        for thing in [None, (2, ()), (2, ((0, 2),)), (2, ((0, True),)), [2, ((0, 1),)], nested(300)]:
            self.refuses(NoModel, far_from, F, thing, None)
            self.refuses(NoModel, far_from, F, thing, two)
            self.refuses(NoModel, far_from, F, one, thing)
        self.refuses(NoSize, far_from, F, one, two)
        self.refuses(NoSize, far_from, F, two, one)


class NearestTest(Checks, unittest.TestCase):
    def test_against_all_tables(self):
        chance = fixed_chance(61)
        seen = set()
        for one, most in KINDS:
            for size in range(1, most + 1):
                models = [(size, tables) for tables in every_tables(one[0], size) if kept(one, (size, tables))]
                for step in range(12):
                    model = some_model(chance, one[0], size)
                    self.check(one, models, model)
                    seen.add(min([differing(model, other) for other in models], default=None))
        self.assertLessEqual({None, 0, 1, 2}, seen)

    def check(self, one, models, model):
        told = nearest(kind=one, model=model)
        rows = mended(kind=one, model=model, most=10 ** 29)
        if not models:
            self.assertIsNone(told)
            self.assertEqual(rows, [])
            return
        far = min(differing(model, other) for other in models)
        wanted = sorted(other for other in models if differing(model, other) == far)
        self.assertEqual(rows, wanted)
        self.assertEqual(told[0], far)
        self.assertIn(told[1], wanted)
        self.assertTrue(keeps(one, told[1]))
        for most in (0, 1, 2, len(wanted) - 1, len(wanted), len(wanted) + 1):
            self.assertEqual(mended(one, model, most=most), wanted[:most])
        self.assertEqual(mended(one, model), wanted[:12])

    def test_more_than_twelve(self):
        model = (6, ((0,) * 6,))
        told = mended(FF, model, most=1000)
        self.assertGreater(len(told), 12)
        self.assertEqual(mended(FF, model), told[:12])
        self.assertEqual(told, sorted(told))

    def test_no_model_of_the_size(self):
        one = kind("f/1", "x = y")
        self.assertIsNone(nearest(one, (2, ((0, 1),))))
        self.assertEqual(mended(one, (2, ((0, 1),))), [])
        self.assertEqual(mended(one, (2, ((0, 1),)), most=0), [])
        self.assertEqual(nearest(one, (1, ((0,),))), (0, (1, ((0,),))))

    def test_refusals_in_order(self):
        for function, more in [(nearest, {}), (mended, {"most": -1})]:
            self.refuses(NoKind, function, None, None, **more)
            self.refuses(NoKind, function, (F, None), (1, ((0,),)), **more)
            for thing in [None, (2, ()), (2, ((0, 2),)), (7, ((0,) * 7,)), (6, ((0,) * 6,)), nested(300)]:
                self.refuses(NoModel, function, MANY, thing, **more)
        big = (6, ((0,) * 6, (0,) * 6))
        for most in [-1, -10 ** 29, True, False]:
            self.refuses(NoNumber, mended, MANY, big, most=most)
            self.refuses(NoNumber, mended, FF, (2, ((0, 1),)), most=most)
        self.refuses(TooMany, mended, MANY, big, most=0)
        self.refuses(TooMany, nearest, MANY, big)

    def test_the_greatest_are_told_soon(self):
        chance = fixed_chance(62)
        for lines in [("f/1", "f(f(x)) = x"), ("m/2", "m(x, y) = x"), ("f/1 a/0 b/0", "f(f(x)) = a")]:
            one = kind(*lines)
            model = some_model(chance, one[0], 6)
            far, other = nearest(one, model)
            self.assertTrue(keeps(one, other))
            self.assertEqual(far, differing(model, other))

    def test_told_lists_are_own(self):
        self.own(nearest, FF, (3, ((0, 0, 0),)))
        self.own(mended, FF, (3, ((0, 0, 0),)), most=2)
        self.own(mended, FF, (3, ((0, 0, 0),)))


if __name__ == "__main__":
    unittest.main()
