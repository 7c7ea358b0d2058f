"""Points 41 and 42: rows of terms, and free models."""

import itertools
import unittest

from deedworlds.errors import NoLetters, NoModel, NoName, NoNumber, NoRow, NoSignature, NoTerm, TooMany
from deedworlds.free import MOST_ROWS, MOST_WORTHS, free_deed, free_rows, row_of
from tests.helpers import (
    MFE, Checks, count_parts, deed, fixed_chance, letters_in, nested, some_model, some_term, term, tower, var, worth,
)

F = (("f", 1),)
M2 = (("m", 2),)
SIGNATURES = [F, M2, MFE, (("c", 0), ("f", 1)), (("c", 0), ("d", 0)), (("f", 1), ("g", 1))]
LEAST = (2, ((0, 0, 0, 1),))
SWAP = (2, ((1, 0),))
NO_LETTERS = [0, 4, -1, True, False, 10 ** 29]


def row_by_words(signature, model, letters, one):
    names = ("u", "v", "w")[:letters]
    return tuple(worth(signature, model, one, dict(zip(names, row)))
                 for row in itertools.product(range(model[0]), repeat=letters))


def least_parts(signature, model, letters, most=10 ** 6):
    """A dict from all rows to the fewest parts of a term with this row, till nothing is mended any more."""
    size, tables = model
    length = size ** letters
    told = {}
    for k in range(letters):
        told[row_by_words(signature, model, letters, var("uvw"[k]))] = 1
    changed = True
    while changed and len(told) <= most:
        changed = False
        for (name, places), table in zip(signature, tables):
            for rows in itertools.product(list(told), repeat=places):
                columns = list(zip(*rows)) if rows else [()] * length
                row = tuple(table[sum(number * size ** (places - 1 - k) for k, number in enumerate(column))]
                            for column in columns)
                parts = 1 + sum(told[below] for below in rows)
                if parts < told.get(row, 10 ** 9):
                    told[row] = parts
                    changed = True
    return told


class RowTest(Checks, unittest.TestCase):
    def test_against_all_worths(self):
        chance = fixed_chance(51)
        for step in range(200):
            signature = chance.choice(SIGNATURES)
            model = some_model(chance, signature, chance.randrange(1, 7))
            letters = chance.randrange(1, 4)
            one = some_term(chance, signature, 8, "uvwxyz")
            if set(letters_in(one)) <= set("uvw"[:letters]):
                told = row_of(signature=signature, model=model, letters=letters, term=one)
                self.assertEqual(told, row_by_words(signature, model, letters, one))
            else:
                self.refuses(NoLetters, row_of, signature, model, letters, one)

    def test_ordinary_ones(self):
        self.assertEqual(row_of(M2, LEAST, 2, term("m(u, v)", M2)), (0, 0, 0, 1))
        self.assertEqual(row_of(M2, LEAST, 1, term("m(u, u)", M2)), (0, 1))
        self.assertEqual(row_of(M2, LEAST, 3, var("w")), (0, 1) * 4)
        self.assertEqual(len(row_of(F, (6, (tuple(range(6)),)), 3, var("v"))), 216)

    def test_refusals_in_order(self):
        self.refuses(NoSignature, row_of, None, None, 0, None)
        for model in [None, (2, ()), (2, ((2, 0),)), (2, ((True, 0),)), nested(300)]:
            self.refuses(NoModel, row_of, F, model, 0, None)
        for letters in NO_LETTERS:
            self.refuses(NoNumber, row_of, F, SWAP, letters, None)
        for one in [None, ("var", "a"), deed("g", var("u")), tower("f", 61), nested(300)]:
            self.refuses(NoTerm, row_of, F, SWAP, 1, one)
        for letters, name in [(1, "v"), (2, "w"), (3, "x"), (3, "z")]:
            self.refuses(NoLetters, row_of, F, SWAP, letters, deed("f", var(name)))


class FreeRowsTest(Checks, unittest.TestCase):
    def test_ordinary_ones(self):
        self.assertEqual(free_rows(signature=F, model=SWAP, letters=1), [
            ((0, 1), var("u")), ((1, 0), deed("f", var("u")))])
        self.assertEqual(free_rows(M2, LEAST, 2), [
            ((0, 0, 0, 1), term("m(u, v)", M2)), ((0, 0, 1, 1), var("u")), ((0, 1, 0, 1), var("v"))])
        self.assertEqual((MOST_ROWS, MOST_WORTHS), (100, 64))

    def test_against_all_terms(self):
        chance = fixed_chance(52)
        told_many = refused_many = 0
        for step in range(150):
            signature = chance.choice(SIGNATURES)
            model = some_model(chance, signature, chance.randrange(1, 5))
            letters = chance.randrange(1, 4) if model[0] < 3 else 1
            least = least_parts(signature, model, letters, 100)
            if len(least) > 100 or max(least.values()) > 60:
                self.refuses(TooMany, free_rows, signature, model, letters)
                refused_many += 1
                continue
            told = free_rows(signature, model, letters)
            told_many += 1
            self.assertEqual([row for row, one in told], sorted(least))
            for row, one in told:
                self.assertEqual(row_by_words(signature, model, letters, one), row)
                self.assertEqual(row_of(signature, model, letters, one), row)
                self.assertEqual(count_parts(one), least[row])
        self.assertGreater(told_many, 50)
        self.assertGreater(refused_many, 5)

    def test_how_many_worths(self):
        first = tuple(number // 4 for number in range(16))
        told = free_rows(M2, (4, (first,)), 3)
        self.assertEqual([len(row) for row, one in told], [64] * 3)
        for size, letters in [(5, 3), (6, 3)]:
            one = (size, (tuple(number // size for number in range(size * size)),))
            self.refuses(TooMany, free_rows, M2, one, letters)
            self.refuses(TooMany, free_deed, M2, one, letters, "n", None)
        self.assertEqual(len(free_rows(M2, (6, (tuple(number // 6 for number in range(36)),)), 2)), 2)

    def test_how_many_rows(self):
        """Sums of two letters, with a deed that adds one: as many rows as the rounds go together."""
        for round_of, letters, many in [(4, 2, 4 ** 3), (5, 2, 5 ** 3), (6, 1, 36)]:
            plus = tuple((a + b) % round_of for a in range(round_of) for b in range(round_of))
            signature = (("m", 2), ("f", 1))
            model = (round_of, (plus, tuple((a + 1) % round_of for a in range(round_of))))
            least = least_parts(signature, model, letters, 130)
            self.assertEqual(len(least), many)
            if many > 100:
                self.refuses(TooMany, free_rows, signature, model, letters)
            else:
                told = free_rows(signature, model, letters)
                self.assertEqual({row: count_parts(one) for row, one in told}, least)

    def test_just_so_many_rows(self):
        """Rows of one letter by deeds of one place: 100 are told, 101 refused."""
        chance = fixed_chance(53)
        seen = {}
        for step in range(4000):
            signature = (("f", 1), ("g", 1), ("c", 0))
            model = some_model(chance, signature, 5)
            least = least_parts_of_words(model)
            if len(least) in (99, 100, 101, 102) and max(least.values()) <= 60 and len(least) not in seen:
                seen[len(least)] = True
                if len(least) > 100:
                    self.refuses(TooMany, free_rows, signature, model, 1)
                else:
                    told = free_rows(signature, model, 1)
                    self.assertEqual({row: count_parts(one) for row, one in told}, least)
        self.assertIn(100, seen)
        self.assertIn(101, seen)

    def test_terms_of_just_so_many_parts(self):
        """Tables found by trying: one of whose rows wants a term of 60 parts, and one that wants 61."""
        both = (("m", 2), ("f", 1))
        sixty = (6, ((2, 0, 0, 0, 0, 0, 1, 2, 1, 4, 1, 1, 2, 2, 3, 2, 2, 2, 3, 3, 3, 3, 0, 3, 4, 4, 4, 4, 5, 4,
                      5, 5, 5, 5, 5, 0), (0, 0, 2, 3, 4, 5)))
        least = least_parts(both, sixty, 1)
        self.assertEqual(max(least.values()), 60)
        self.assertEqual({row: count_parts(one) for row, one in free_rows(both, sixty, 1)}, least)
        more = (6, ((1, 0, 0, 0, 0, 1, 1, 2, 1, 1, 1, 1, 2, 2, 3, 2, 2, 2, 3, 3, 3, 0, 3, 3, 4, 4, 4, 4, 5, 4,
                     5, 5, 5, 5, 5, 0),))
        least = least_parts(M2, more, 1)
        self.assertEqual((len(least), max(least.values())), (84, 61))
        self.refuses(TooMany, free_rows, M2, more, 1)
        self.refuses(TooMany, free_deed, M2, more, 1, "m", ((0, 1, 2, 3, 4, 5),) * 2)

    def test_a_row_far_beyond(self):
        """What is made of a row and itself is one more: each row wants twice as many parts."""
        for size, parts in [(5, 31), (6, 63)]:
            table = tuple((a + 1) % size if a == b else a for a in range(size) for b in range(size))
            self.assertEqual(max(least_parts(M2, (size, (table,)), 1).values()), parts)
            if parts > 60:
                self.refuses(TooMany, free_rows, M2, (size, (table,)), 1)
            else:
                self.assertEqual(len(free_rows(M2, (size, (table,)), 1)), size)

    def test_refusals_in_order(self):
        for function, more in [(free_rows, ()), (free_deed, (0, None))]:
            self.refuses(NoSignature, function, None, None, 0, *more)
            for model in [None, (2, ()), (2, ((2, 0),)), nested(300)]:
                self.refuses(NoModel, function, F, model, 0, *more)
            for letters in NO_LETTERS:
                self.refuses(NoNumber, function, F, (6, ((0,) * 6,)), letters, *more)
            self.refuses(TooMany, function, F, (6, ((0,) * 6,)), 3, *more)

    def test_told_lists_are_own(self):
        self.own(free_rows, M2, LEAST, 2)
        self.own(free_deed, M2, LEAST, 1, "m", ((0, 1), (0, 1)))


def least_parts_of_words(model):
    """The fewest parts of words of f and g over the letter or the constant, by widening."""
    size, (f, g, c) = model
    level = [tuple(range(size)), (c[0],) * size]
    told = {row: 1 for row in level}
    parts = 1
    while level and len(told) <= 102:
        parts += 1
        fresh = []
        for row in level:
            for table in (f, g):
                longer = tuple(table[number] for number in row)
                if longer not in told:
                    told[longer] = parts
                    fresh.append(longer)
        level = fresh
    return told


class FreeDeedTest(Checks, unittest.TestCase):
    def test_place_by_place(self):
        chance = fixed_chance(55)
        for step in range(40):
            signature = chance.choice(SIGNATURES)
            model = some_model(chance, signature, 2)
            letters = chance.randrange(1, 3)
            told = dict(free_rows(signature, model, letters))
            for name, places in signature:
                for rows in itertools.product(list(told), repeat=places):
                    made = free_deed(signature=signature, model=model, letters=letters, name=name, rows=rows)
                    one = ("deed", name, tuple(told[row] for row in rows))
                    self.assertEqual(made, row_by_words(signature, model, letters, one))
                    self.assertIn(made, told)

    def test_no_name(self):
        for name in ["n", "", "M", "mm", "nm " * 9]:
            self.refuses(NoName, free_deed, M2, LEAST, 2, name, None)

    def test_no_row(self):
        u, v = (0, 0, 1, 1), (0, 1, 0, 1)
        self.assertEqual(free_deed(M2, LEAST, 2, "m", (u, v)), (0, 0, 0, 1))
        for rows in [(), (u,), (u, v, u), (u, None), (None, v), (u, list(v)), (u, (0, 1, 1, 1)), (u, (0, 1, 0)),
                     (u, v + (0,)), (u, (False, 1, 0, 1)), (u, (0, True, 0, True)), (u, (0, 2, 0, 1)), (u, 0),
                     (u, "0101"), (u, ()), (nested(299), u)]:
            self.refuses(NoRow, free_deed, M2, LEAST, 2, "m", rows)
        constant = (("c", 0),)
        self.assertEqual(free_deed(constant, (2, ((1,),)), 2, "c", ()), (1, 1, 1, 1))
        self.refuses(NoRow, free_deed, constant, (2, ((1,),)), 2, "c", (u,))
        self.refuses(NoRow, free_deed, constant, (2, ((1,),)), 2, "c", ((),))


if __name__ == "__main__":
    unittest.main()
