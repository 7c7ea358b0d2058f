"""Points 13 and 15: orders, least forms, own orders and orbits."""

import itertools
import math
import unittest

from deedworlds.errors import NoModel, NoOrder, NoSignature
from deedworlds.maps import least_form, orbits, own_orders, renamed, renamed_by, renamings
from tests.helpers import MFE, Checks, called, every_tables, fixed_chance, least, nested, some_model

NO_ORDERS = [None, True, 3, "012", (), (0,), (0, 1), (0, 1, 2, 3), [0, 1, 2], (0, 1, 1), (1, 2, 3), (-1, 0, 1),
             (0, True, 2), (False, 1, 2), (0, 1, "2"), (0, 1, None), (0, 1, (2,)), (0, 1, [2]), nested(300)]
F = (("f", 1),)
THREE = (3, ((0, 1, 2, 1, 2, 0, 2, 0, 1), (0, 2, 1), (0,)))


def some_models(chance):
    """Models of all sizes: of chance, and such as many orders lead to themselves."""
    for size in range(1, 7):
        yield MFE, some_model(chance, MFE, size)
        numbers = range(size)
        first = tuple(a for a in numbers for b in numbers)
        plus = tuple((a + b) % size for a in numbers for b in numbers)
        around = tuple((a + 1) % size for a in numbers)
        for tables in [(first, tuple(numbers), (size - 1,)), (plus, around, (size // 2,)),
                       (first, around, (0,)), ((size - 1,) * size ** 2, (0,) * size, (0,)),
                       (tuple(b for a in numbers for b in numbers), tuple(chance.choices(numbers, k=size)), (0,))]:
            yield MFE, (size, tables)
        yield F, (size, (tuple(numbers),))
        yield (("a", 0), ("b", 0), ("c", 0)), (size, ((size - 1,), (0,), (size - 1,)))


class OrdersTest(Checks, unittest.TestCase):
    def test_renamed(self):
        self.assertEqual(renamed(F, (3, ((1, 1, 2),)), (2, 0, 1)), (3, ((0, 1, 0),)))
        self.assertEqual(renamed(signature=F, model=(2, ((0, 0),)), order=(1, 0)), (2, ((1, 1),)))
        chance = fixed_chance()
        for size in range(1, 7):
            model = some_model(chance, MFE, size)
            for step in range(10):
                order = tuple(chance.sample(range(size), size))
                self.assertEqual(renamed(MFE, model, order), called(MFE, model, order))

    def test_one_order_and_then_another_one(self):
        chance = fixed_chance()
        for size in range(1, 7):
            model = some_model(chance, MFE, size)
            for step in range(10):
                one, other = (tuple(chance.sample(range(size), size)) for order in range(2))
                self.assertEqual(renamed(MFE, renamed(MFE, model, one), other),
                                 renamed(MFE, model, renamed_by(one, other)))
                back = tuple(one.index(number) for number in range(size))
                self.assertEqual(renamed(MFE, renamed(MFE, model, one), back), model)
                self.assertEqual(renamed_by(one=one, other=back), tuple(range(size)))

    def test_renamed_by_tells_which_is_first(self):
        self.assertEqual(renamed_by((1, 2, 0), (1, 0, 2)), (0, 2, 1))
        self.assertEqual(renamed_by((0,), (0,)), (0,))

    def test_no_order(self):
        for order in NO_ORDERS:
            self.refuses(NoOrder, renamed, MFE, THREE, order)
            self.refuses(NoOrder, renamed_by, (0, 2, 1), order)
        for order in NO_ORDERS:
            if order not in ((), (0,), (0, 1), (0, 1, 2, 3)):
                self.refuses(NoOrder, renamed_by, order, (0, 2, 1))
                self.refuses(NoOrder, renamed_by, order, order)
        self.refuses(NoOrder, renamed_by, (0,), (0, 1))
        self.refuses(NoOrder, renamed_by, (0, 1), (0,))
        self.refuses(NoOrder, renamed_by, (1, 0), ())

    def test_order_of_refusals(self):
        self.refuses(NoSignature, renamed, None, None, None)
        self.refuses(NoModel, renamed, MFE, None, None)
        self.refuses(NoModel, renamed, MFE, (True, ((0,), (0,), (0,))), (0,))
        for function in (least_form, own_orders, renamings, orbits):
            self.refuses(NoSignature, function, (), None)
            self.refuses(NoModel, function, MFE, (2, ()))
            self.refuses(NoModel, function, MFE, nested(300))


class FormsTest(Checks, unittest.TestCase):
    def test_least_form_against_all_renamed_ones(self):
        for signature, model in some_models(fixed_chance()):
            self.assertEqual(least_form(signature, model), least(signature, model))

    def test_least_form_is_the_same_for_alike_ones(self):
        chance = fixed_chance()
        for step in range(40):
            size = chance.randint(1, 6)
            model = some_model(chance, MFE, size)
            order = tuple(chance.sample(range(size), size))
            self.assertEqual(least_form(MFE, renamed(MFE, model, order)), least_form(signature=MFE, model=model))

    def test_least_form_of_all_small_ones(self):
        for signature in [(("m", 2),), (("f", 1), ("g", 1)), (("e", 0), ("f", 1)), (("f", 1), ("e", 0), ("c", 0))]:
            for size in (1, 2, 3):
                for at, tables in enumerate(every_tables(signature, size)):
                    if size < 3 or signature[0][1] < 2 or at % 97 == 0:
                        self.assertEqual(least_form(signature, (size, tables)), least(signature, (size, tables)))

    def test_own_orders_and_renamings_against_all_orders(self):
        for signature, model in some_models(fixed_chance()):
            orders = list(itertools.permutations(range(model[0])))
            own = [order for order in orders if called(signature, model, order) == model]
            self.assertEqual(own_orders(signature, model), own)
            many = len({called(signature, model, order) for order in orders})
            self.assertEqual(renamings(signature, model), many)
            self.assertEqual(many * len(own), math.factorial(model[0]))

    def test_orbits_against_own_orders(self):
        for signature, model in some_models(fixed_chance()):
            size = model[0]
            own = [order for order in itertools.permutations(range(size)) if called(signature, model, order) == model]
            rows = [sorted({order[number] for order in own}) for number in range(size)]
            self.assertEqual(orbits(signature, model), sorted([list(row) for row in {tuple(row) for row in rows}]))

    def test_examples(self):
        self.assertEqual(own_orders(F, (3, ((1, 2, 0),))), [(0, 1, 2), (1, 2, 0), (2, 0, 1)])
        self.assertEqual(renamings(F, (3, ((1, 2, 0),))), 2)
        self.assertEqual(orbits(F, (4, ((1, 0, 2, 2),))), [[0, 1], [2], [3]])
        self.assertEqual(least_form(F, (3, ((2, 2, 2),))), (3, ((0, 0, 0),)))

    def test_lists_are_own(self):
        for function in (own_orders, orbits):
            self.own(function, F, (4, ((1, 0, 2, 3),)))


if __name__ == "__main__":
    unittest.main()
