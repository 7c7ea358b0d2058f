"""Readings of a signature by another one: point 67a."""

import itertools
import unittest

from deedworlds.errors import NoModel, NoReading, NoSignature, NoTerm, TooBig
from deedworlds.models import worth_by
from deedworlds.readings import model_read, reading_wrong, term_read, two_read
from tests.helpers import (
    MFE, Checks, count_parts, deed, fixed_chance, letters_in, nested, some_model, some_term, term, tower, var, worth,
)
from tests.walks import put

ONE = (("n", 2), ("g", 1), ("a", 0))
OTHER = MFE
READING = (term("m(v, f(u))"), term("m(u, u)"), term("f(e)"))
DROPS = (term("v"), term("e"), term("e"))
THIRD = (("d", 2), ("h", 1), ("b", 0))


def read(signature, reading, one):
    """A term as read, by the words of the point."""
    if one[0] == "var":
        return one
    place = [name for name, places in signature].index(one[1])
    return put(reading[place], dict(zip("uv", (read(signature, reading, part) for part in one[2]))))


def some_reading(chance, signature, other, parts=5):
    told = []
    for name, places in signature:
        while True:
            one = some_term(chance, other, chance.randint(1, parts), "uv"[:places] or "u")
            if len(letters_in(one)) <= places and set(letters_in(one)) <= set("uv"[:places]):
                break
        told.append(one)
    return tuple(told)


class ReadingTest(Checks, unittest.TestCase):
    def test_wrong(self):
        self.assertIsNone(reading_wrong(ONE, OTHER, READING))
        self.assertIsNone(reading_wrong(ONE, OTHER, DROPS))
        self.assertIsNone(reading_wrong(ONE, OTHER, (tower("f", 60, var("v")), var("u"), term("e"))))
        for thing in (None, 1, True, "n", [], (), READING[:2], READING + READING, list(READING), nested(300)):
            self.assertEqual(reading_wrong(ONE, OTHER, thing), ("reading",))
        for k in range(3):
            for odd in (None, ("var", "t"), var("w"), deed("n", var("u"), var("v")), tower("f", 61), [], nested(290),
                        term("m(u, x)")):
                thing = READING[:k] + (odd,) + (None,) * (2 - k)
                self.assertEqual(reading_wrong(ONE, OTHER, thing), ("deed", k))
        self.assertEqual(reading_wrong(ONE, OTHER, (READING[0], term("v"), READING[2])), ("deed", 1))
        self.assertEqual(reading_wrong(ONE, OTHER, READING[:2] + (term("u"),)), ("deed", 2))
        self.refuses(NoSignature, reading_wrong, (), 1, 2)
        self.refuses(NoSignature, reading_wrong, ONE, (), 2)
        self.refuses(NoSignature, reading_wrong, (("f", 3),), OTHER, READING[:1])

    def test_terms(self):
        self.assertEqual(term_read(ONE, OTHER, READING, term("n(g(x), a)", ONE)), term("m(f(e), f(m(x, x)))"))
        self.assertEqual(term_read(ONE, OTHER, DROPS, term("n(g(x), n(y, z))", ONE)), term("z"))
        chance = fixed_chance(61)
        for k in range(200):
            reading = some_reading(chance, ONE, OTHER)
            one = some_term(chance, ONE, chance.randint(1, 7))
            expected = read(ONE, reading, one)
            if count_parts(expected) > 60:
                self.refuses(TooBig, term_read, ONE, OTHER, reading, one)
            else:
                self.assertEqual(term_read(ONE, OTHER, reading, one), expected)

    def test_sixty(self):
        double = (term("m(u, v)"), term("f(f(u))"), term("e"))
        deep = deed("n", tower("g", 30), term("a", ONE))
        # n: 1, the tower of 29 deeds: 58 and its x, and a
        self.assertEqual(count_parts(read(ONE, double, deep)), 61)
        self.refuses(TooBig, term_read, ONE, OTHER, double, deep)
        less = tower("g", 30, term("a", ONE))
        self.assertEqual(count_parts(term_read(ONE, OTHER, double, less)), 59)
        self.assertEqual(count_parts(term_read(ONE, OTHER, double, deed("n", tower("g", 29), tower("g", 1)))), 59)
        exact = deed("n", tower("g", 29), deed("n", var("x"), var("y")))
        self.assertEqual(count_parts(read(ONE, double, exact)), 61)
        triple = (term("m(u, v)"), term("f(f(f(u)))"), term("f(e)"))
        self.assertEqual(count_parts(term_read(ONE, OTHER, triple, tower("g", 20, term("a", ONE)))), 59)
        self.assertEqual(count_parts(term_read(ONE, OTHER, triple, deed("n", tower("g", 20), var("y")))), 60)
        self.refuses(TooBig, term_read, ONE, OTHER, triple, deed("n", tower("g", 20), term("a", ONE)))

    def test_dropped_and_great(self):
        # what is dropped would double fifty times
        grows = (term("v"), term("m(u, u)"), term("e"))
        self.assertEqual(term_read(ONE, OTHER, grows, deed("n", tower("g", 55), var("y"))), var("y"))
        self.refuses(TooBig, term_read, ONE, OTHER, grows, deed("n", var("y"), tower("g", 55)))
        self.refuses(TooBig, term_read, ONE, OTHER, grows, tower("g", 6))
        self.assertEqual(count_parts(term_read(ONE, OTHER, grows, tower("g", 5))), 31)

    def test_models(self):
        chance = fixed_chance(62)
        for k in range(60):
            reading = some_reading(chance, ONE, OTHER)
            size = chance.randint(1, 4)
            model = some_model(chance, OTHER, size)
            told = model_read(ONE, OTHER, reading, model)
            for (name, places), one, table in zip(ONE, reading, told[1]):
                rows = itertools.product(range(size), repeat=places)
                self.assertEqual(table, tuple(worth(OTHER, model, one, dict(zip("uv", row))) for row in rows))
            self.assertEqual(told[0], size)
            one = some_term(chance, ONE, 4, "xz")
            as_read = read(ONE, reading, one)
            for row in itertools.product(range(size), repeat=2):
                by = dict(zip("xz", row))
                worths = tuple(by[name] for name in letters_in(one))
                self.assertEqual(worth_by(ONE, told, one, worths), worth(OTHER, model, as_read, by))

    def test_two(self):
        chance = fixed_chance(63)
        for k in range(100):
            one, two = some_reading(chance, ONE, OTHER), some_reading(chance, OTHER, THIRD)
            expected = tuple(read(OTHER, two, part) for part in one)
            if max(map(count_parts, expected)) > 60:
                self.refuses(TooBig, two_read, ONE, OTHER, THIRD, one, two)
                continue
            told = two_read(ONE, OTHER, THIRD, one, two)
            self.assertEqual(told, expected)
            asked = some_term(chance, ONE, 3)
            self.assertEqual(read(ONE, told, asked), read(OTHER, two, read(ONE, one, asked)))
        self.refuses(TooBig, two_read, ONE, OTHER, THIRD, (var("u"), tower("f", 31, var("u")), term("e")),
                     (var("u"), deed("h", deed("h", var("u"))), term("b", THIRD)))

    def test_refused(self):
        for function, last in ((term_read, NoTerm), (model_read, NoModel)):
            self.refuses(NoSignature, function, (), 1, 2, 3)
            self.refuses(NoSignature, function, ONE, (), 2, 3)
            self.refuses(NoReading, function, ONE, OTHER, READING[:2], 3)
            self.refuses(last, function, ONE, OTHER, READING, 3)
        self.refuses(NoTerm, term_read, ONE, OTHER, READING, term("e"))
        self.refuses(NoModel, model_read, ONE, OTHER, READING, (1, ((0,), (0,))))
        for k in range(3):
            signatures = [ONE, OTHER, THIRD]
            signatures[k] = ()
            self.refuses(NoSignature, two_read, *signatures, 1, 2)
        self.refuses(NoReading, two_read, ONE, OTHER, THIRD, 1, 2)
        self.refuses(NoReading, two_read, ONE, OTHER, THIRD, READING, READING)
        right = (deed("d", var("u"), var("v")), deed("h", var("u")), deed("b"))
        self.assertEqual(len(two_read(ONE, OTHER, THIRD, READING, right)), 3)
        self.refuses(NoReading, two_read, ONE, OTHER, THIRD, READING[:2] + (var("u"),), right)


if __name__ == "__main__":
    unittest.main()
