"""Points 37 and 40: leads, products with their sides, and the image of a lead."""

import itertools
import unittest

from deedworlds.errors import NoLead, NoModel, NoSignature, TooMany
from deedworlds.leads import image, lead_judged, leads, product, sides
from deedworlds.maps import renamed
from deedworlds.parts import part
from tests.helpers import MFE, Checks, breaks, fixed_chance, nested, some_model, some_term, tables_as_dict
from tests.papers import cells_by_words

F = (("f", 1),)
M2 = (("m", 2),)
SIGNATURES = [F, M2, MFE, (("c", 0), ("f", 1)), (("c", 0),), (("f", 1), ("g", 1))]
ROUND = (4, ((1, 2, 3, 0),))
SWAP = (2, ((1, 0),))
PLUS = (3, ((0, 1, 2, 1, 2, 0, 2, 0, 1),))
FIRST = (6, (tuple(number // 6 for number in range(36)),))


def first_odd(signature, one, other, images):
    here, there = tables_as_dict(signature, one), tables_as_dict(signature, other)
    for name, args in cells_by_words(signature, one[0]):
        if images[here[(name, args)]] != there[(name, tuple(images[arg] for arg in args))]:
            return ("cell", name, args)
    return None


def folded_by(signature, model, join):
    """The model of the lots of a join, by their least numbers in order."""
    whole, least = tables_as_dict(signature, model), sorted(set(join))
    tables = []
    for name, places in signature:
        rows = itertools.product(least, repeat=places)
        tables.append(tuple(least.index(join[whole[(name, args)]]) for args in rows))
    return (len(least), tuple(tables))


def some_pairs(seed, many, most=4):
    chance = fixed_chance(seed)
    for step in range(many):
        signature = chance.choice(SIGNATURES)
        yield (chance, signature, some_model(chance, signature, chance.randrange(1, most + 1)),
               some_model(chance, signature, chance.randrange(1, most + 1)))


class LeadsTest(Checks, unittest.TestCase):
    def test_ordinary_ones(self):
        self.assertEqual(leads(signature=F, one=ROUND, other=SWAP), [[0, 1, 0, 1], [1, 0, 1, 0]])
        self.assertEqual(leads(F, SWAP, ROUND), [])
        self.assertEqual(leads(M2, PLUS, PLUS), [[0, 0, 0], [0, 1, 2], [0, 2, 1]])

    def test_against_all_lists(self):
        for chance, signature, one, other in some_pairs(40, 150):
            wanted = []
            for images in itertools.product(range(other[0]), repeat=one[0]):
                odd = first_odd(signature, one, other, images)
                self.assertEqual(lead_judged(signature=signature, one=one, other=other, thing=list(images)), odd)
                if odd is None:
                    wanted.append(list(images))
            self.assertEqual(leads(signature, one, other), wanted)

    def test_all_maps_of_the_greatest(self):
        signature = (("a", 2), ("b", 2), ("c", 2), ("d", 2))
        one = (6, FIRST[1] * 4)
        told = leads(signature, one, one)
        self.assertEqual((len(told), told[:2], told[-1]), (6 ** 6, [[0] * 6, [0, 0, 0, 0, 0, 1]], [5] * 6))
        self.assertEqual(told, sorted(told))

    def test_form(self):
        for thing in [None, True, 0, "0101", (), [], (0, 1, 0, 1), [0, 1, 0], [0, 1, 0, 1, 0], [0, 1, 0, 2],
                      [0, 1, 0, -1], [False, 1, 0, 1], [0, True, 0, 1], [0, 1, 0, None], [0, 1, 0, "1"],
                      [0, 1, 0, [1]], nested(300), [nested(299)] * 4]:
            self.assertEqual(lead_judged(F, ROUND, SWAP, thing), ("form",), thing)
        self.assertIsNone(lead_judged(F, ROUND, SWAP, [0, 1, 0, 1]))

    def test_the_first_cell(self):
        self.assertEqual(lead_judged(F, ROUND, SWAP, [0, 0, 0, 0]), ("cell", "f", (0,)))
        self.assertEqual(lead_judged(F, ROUND, SWAP, [0, 1, 1, 0]), ("cell", "f", (1,)))
        both = (("m", 2), ("c", 0))
        one = (2, ((0, 0, 0, 1), (0,)))
        self.assertEqual(lead_judged(both, one, one, [1, 0]), ("cell", "c", ()))
        self.assertEqual(lead_judged(M2, (2, one[1][:1]), (2, one[1][:1]), [1, 0]), ("cell", "m", (0, 1)))

    def test_signature_and_models_first(self):
        for function, more in [(leads, ()), (lead_judged, (None,)), (product, ()), (sides, ()), (image, (None,))]:
            self.refuses(NoSignature, function, None, None, None, *more)
            for thing in [None, (2, ()), (2, ((2, 0),)), [2, ((1, 0),)], (7, ((0,) * 7,)), nested(300)]:
                self.refuses(NoModel, function, F, thing, None, *more)
                self.refuses(NoModel, function, F, FIRST[:1] + ((0,) * 6,), thing, *more)
                self.refuses(NoModel, function, F, SWAP, thing, *more)

    def test_told_lists_are_own(self):
        self.own(leads, F, ROUND, SWAP)
        self.own(lead_judged, F, ROUND, SWAP, [0, 1, 0, 1])
        self.own(product, F, SWAP, SWAP)
        self.own(sides, F, SWAP, SWAP)
        self.own(image, F, ROUND, SWAP, [1, 0, 1, 0])


class ProductTest(Checks, unittest.TestCase):
    def test_ordinary_ones(self):
        self.assertEqual(product(signature=F, one=SWAP, other=(2, ((0, 0),))), (4, ((2, 2, 0, 0),)))
        self.assertEqual(sides(signature=F, one=SWAP, other=(3, ((0, 0, 0),))),
                         ([0, 0, 0, 1, 1, 1], [0, 1, 2, 0, 1, 2]))

    def test_cell_by_cell(self):
        for chance, signature, one, other in some_pairs(41, 120, 6):
            if one[0] * other[0] > 6:
                self.refuses(TooMany, product, signature, one, other)
                self.refuses(TooMany, sides, signature, one, other)
                continue
            told = product(signature, one, other)
            self.assertEqual(told[0], one[0] * other[0])
            here, there = tables_as_dict(signature, one), tables_as_dict(signature, other)
            for (name, args), worth in tables_as_dict(signature, told).items():
                left = here[(name, tuple(arg // other[0] for arg in args))]
                right = there[(name, tuple(arg % other[0] for arg in args))]
                self.assertEqual(worth, left * other[0] + right)
            first, second = sides(signature, one, other)
            self.assertIsNone(lead_judged(signature, told, one, first))
            self.assertIsNone(lead_judged(signature, told, other, second))
            self.assertEqual([i * other[0] + j for i, j in zip(first, second)], list(range(told[0])))

    def test_an_equation_holds_just_where_it_holds_in_both(self):
        seen = set()
        for chance, signature, one, other in some_pairs(42, 300, 2):
            claim = (some_term(chance, signature, 4, "xy"), some_term(chance, signature, 4, "xy"))
            both = not breaks(signature, one, claim) and not breaks(signature, other, claim)
            self.assertEqual(not breaks(signature, product(signature, one, other), claim), both)
            seen.add(both)
        self.assertEqual(seen, {True, False})

    def test_sizes(self):
        three = (3, ((1, 2, 0),))
        for one, other in [(SWAP, three), (three, SWAP), ((6, ((0,) * 6,)), (1, ((0,),)))]:
            self.assertEqual(product(F, one, other)[0], 6)
            self.assertEqual(len(sides(F, one, other)[0]), 6)
        for one, other in [(three, three), (ROUND, SWAP), (SWAP, ROUND), ((6, ((0,) * 6,)), SWAP)]:
            self.refuses(TooMany, product, F, one, other)
            self.refuses(TooMany, sides, F, one, other)


class ImageTest(Checks, unittest.TestCase):
    def test_an_ordinary_one(self):
        join, closed, onto = image(signature=F, one=ROUND, other=SWAP, lead=[1, 0, 1, 0])
        self.assertEqual((join, closed, onto), ([0, 1, 0, 1], [0, 1], (1, 0)))
        self.assertEqual(image(F, (2, ((0, 0),)), (3, ((1, 1, 0),)), [1, 1]), ([0, 0], [1], (0,)))

    def test_of_each_lead(self):
        many = 0
        for chance, signature, one, other in some_pairs(43, 150):
            for lead in leads(signature, one, other):
                many += 1
                join, closed, onto = image(signature, one, other, lead)
                self.assertEqual(join, [lead.index(number) for number in lead])
                self.assertEqual(closed, sorted(set(lead)))
                self.assertIsInstance(onto, tuple)
                folded = folded_by(signature, one, join)
                self.assertEqual(renamed(signature, folded, onto), part(signature, other, closed))
                least = sorted(set(join))
                for number in range(one[0]):
                    self.assertEqual(closed[onto[least.index(join[number])]], lead[number])
        self.assertGreater(many, 100)

    def test_no_lead(self):
        for thing in [None, True, "0101", (), [], (0, 1, 0, 1), [0, 1, 0], [0, 1, 0, 1, 0], [0, 1, 0, 2],
                      [False, 1, 0, 1], [0, 0, 0, 0], [0, 1, 1, 0], nested(300), [nested(299)]]:
            self.refuses(NoLead, image, F, ROUND, SWAP, thing)


if __name__ == "__main__":
    unittest.main()
