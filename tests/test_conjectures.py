"""Small terms, classes, terms led down, conjectures and partings: points 66a to 66f."""

import itertools
import unittest

from deedworlds.conjectures import (
    all_partings, classes, conjectures, conjectures_judged, down, low_of, parting, small_terms,
)
from deedworlds.counting import all_models
from deedworlds.lowering import Lowering
from deedworlds.smallterms import many_by_parts
from deedworlds.errors import NoEquation, NoKind, NoNumber, NoSignature, NoSize, NoTerm, TooMany
from deedworlds.texts import least_equation, term_text
from tests.helpers import (
    MFE, Checks, breaks, count_parts, deed, equation, every_tables, fixed_chance, kept, kind, letters_in, nested,
    some_term, term, tower, var, worth,
)
from tests.walks import all_paths, at, comes, fitted, put, with_at

MONOID = kind("m/2 e/0", "m(m(x, y), z) = m(x, m(y, z))", "m(e, x) = x")
UNARY = kind("f/1 g/1", "f(g(x)) = x")
COMMUTING = kind("m/2", "m(x, y) = m(y, x)")
POINTS = kind("a/0 b/0 f/1", "a = b")
EMPTY = kind("m/2")


def text(one):
    if one[0] == "var" or not one[2]:
        return one[1]
    return f"{one[1]}({', '.join(map(text, one[2]))})"


def ahead(one):
    return count_parts(one), text(one)


def every_small(signature, parts, letters):
    """All small terms, grown till there are no more."""
    told = {var(name) for name in "uv"[:letters]} | {deed(name) for name, places in signature if places == 0}
    while True:
        more = set(told)
        for name, places in signature:
            if places:
                for row in itertools.product(told, repeat=places):
                    if 1 + sum(map(count_parts, row)) <= parts:
                        more.add(deed(name, *row))
        if more == told:
            return sorted(told, key=ahead)
        told = more


def rows_in(the_kind, size, letters, one):
    """What a term comes to in all models of all sizes, alike ones too."""
    told = []
    for here in range(1, size + 1):
        for tables in every_tables(the_kind[0], here):
            if kept(the_kind, (here, tables)):
                for row in itertools.product(range(here), repeat=letters):
                    told.append(worth(the_kind[0], (here, tables), one, dict(zip("uv", row))))
    return tuple(told)


def every_class(the_kind, size, parts, letters):
    told = {}
    for one in every_small(the_kind[0], parts, letters):
        told.setdefault(rows_in(the_kind, size, letters, one), []).append(one)
    return list(told.values())


def next_down(equations, one):
    """The least term to which an equation leads a term down, or None."""
    told = []
    for sides in equations:
        for begin, end in (sides, sides[::-1]):
            if not set(letters_in(end)) <= set(letters_in(begin)):
                continue
            for path in all_paths(one):
                by = fitted(begin, at(one, path), {})
                if by is not None:
                    other = with_at(one, path, put(end, by))
                    if ahead(other) < ahead(one):
                        told.append(other)
    return min(told, key=ahead) if told else None


def row_down(equations, one):
    told = [one]
    while (one := next_down(equations, one)) is not None:
        told.append(one)
    return told


def low(equations, one):
    return row_down(equations, one)[-1]


def every_conjecture(the_kind, size, parts, letters):
    told = []
    firsts = {}
    for together in every_class(the_kind, size, parts, letters):
        for one in together[1:]:
            firsts[one] = together[0]
    for one in every_small(the_kind[0], parts, letters):
        if one in firsts:
            least = least_equation(the_kind[0], (firsts[one], one))
            so_far = list(the_kind[1]) + told
            if least in told or low(so_far, firsts[one]) == low(so_far, one):
                continue
            if low(so_far, least[0]) != low(so_far, least[1]):
                told.append(least)
    return told


class SmallTest(Checks, unittest.TestCase):
    def test_all(self):
        for signature in (MFE, MONOID[0], UNARY[0], (("f", 1),), (("e", 0),), (("m", 2),), POINTS[0]):
            for parts in range(1, 6):
                for letters in range(3):
                    expected = every_small(signature, parts, letters)
                    self.assertEqual(sum(many_by_parts(signature, parts, letters)), len(expected))
                    if len(expected) > 400:
                        self.refuses(TooMany, small_terms, signature, parts=parts, letters=letters)
                    else:
                        self.assertEqual(small_terms(signature, parts=parts, letters=letters), expected)
        self.assertEqual(small_terms(MONOID[0]), every_small(MONOID[0], 4, 2))
        self.assertEqual(small_terms((("f", 1),), parts=5, letters=0), [])
        self.own(small_terms, MONOID[0], parts=3)

    def test_four_hundred(self):
        # 2 letters and 2 points, m and n: 4 + 32 of three parts; with f of one place 4 + 4 + 36 + ...
        counts = {}
        for signature in ((("m", 2), ("n", 2), ("e", 0)), (("m", 2), ("n", 2)), (("f", 1), ("g", 1), ("h", 1), ("i", 1)),
                          (("f", 1), ("g", 1), ("h", 1), ("e", 0)), (("m", 2), ("f", 1), ("g", 1))):
            for parts, letters in itertools.product((4, 5), (0, 1, 2)):
                counts[(signature, parts, letters)] = len(every_small(signature, parts, letters))
        self.assertTrue(any(300 < many <= 400 for many in counts.values()))
        self.assertTrue(any(400 < many < 450 for many in counts.values()) or max(counts.values()) > 400)
        for (signature, parts, letters), many in counts.items():
            if many > 400:
                self.refuses(TooMany, small_terms, signature, parts=parts, letters=letters)
            else:
                self.assertEqual(len(small_terms(signature, parts=parts, letters=letters)), many)

    def test_refused(self):
        self.refuses(NoSignature, small_terms, 1, parts=0)
        for thing in (0, 6, -1, True, None, "4", [4], nested(300)):
            self.refuses(NoNumber, small_terms, MFE, parts=thing)
            self.refuses(NoNumber, classes, MONOID, 1, parts=thing)
        for thing in (-1, 3, True, False, None, "1"):
            self.refuses(NoNumber, small_terms, MFE, letters=thing)
            self.refuses(NoNumber, conjectures, MONOID, 1, letters=thing)


class ClassesTest(Checks, unittest.TestCase):
    def test_all(self):
        for the_kind, size, parts in ((MONOID, 2, 4), (UNARY, 3, 4), (COMMUTING, 2, 5), (POINTS, 3, 4), (EMPTY, 2, 3)):
            for letters in range(3):
                expected = every_class(the_kind, size, parts, letters)
                told = classes(the_kind, size, parts=parts, letters=letters)
                self.assertEqual(told, sorted(expected, key=lambda lot: ahead(lot[0])))
                firsts = [lot[0] for lot in told]
                partings = all_partings(the_kind, size, parts=parts, letters=letters)
                self.assertEqual(partings, [parting(the_kind, pair, size) for pair in zip(firsts, firsts[1:])])
                self.assertNotIn(None, partings)
        self.own(classes, MONOID, 2)
        self.own(all_partings, MONOID, 2)
        self.assertEqual(classes(MONOID, 2), classes(MONOID, 2, letters=2, parts=4))

    def test_refused(self):
        for function in (classes, conjectures, all_partings):
            self.refuses(NoKind, function, 1, 0, parts=0)
            for size in (0, 7, True, None, -1):
                self.refuses(NoSize, function, MONOID, size, parts=0)
            self.refuses(NoNumber, function, EMPTY, 6, parts=0)
            self.refuses(TooMany, function, kind("m/2 f/1 g/1 e/0"), 6, parts=5)
            self.refuses(TooMany, function, EMPTY, 4)


class DownTest(Checks, unittest.TestCase):
    def test_by_chance(self):
        chance = fixed_chance(51)
        steps = 0
        for k in range(500):
            equations = [tuple(some_term(chance, MFE, chance.randint(1, 5), "uvx") for side in range(2))
                         for n in range(chance.randint(0, 4))]
            one = some_term(chance, MFE, chance.randint(1, 12), "uwz")
            lines = down(MFE, equations, one)
            self.assertEqual([told for told, reason in lines], row_down(equations, one))
            self.assertIsNone(lines[0][1])
            for n in range(1, len(lines)):
                self.assertTrue(comes(equations, lines[n - 1][0], lines[n]))
            steps += len(lines) - 1
            self.assertEqual(low_of(MFE, equations, one), lines[-1][0])
        self.assertGreater(steps, 150)

    def test_equations_put_one_behind_the_other(self):
        chance = fixed_chance(53)
        better = 0
        for k in range(150):
            lowering = Lowering([])
            equations = []
            ones = [some_term(chance, MFE, chance.randint(3, 9), "uv") for n in range(4)]
            for n in range(5):
                rows = [some_term(chance, MFE, chance.randint(1, 5), "uv") for side in range(2)]
                equations.append(tuple(rows))
                lowering.put_equation(tuple(rows))
                for one in ones:
                    told = [line[0] for line in lowering.lines_down(one, 500)]
                    self.assertEqual(told, row_down(equations, one))
                    better += len(told) > 2
        self.assertGreater(better, 20)

    def test_plain(self):
        equations = [equation("u = e"), equation("m(u, v) = m(v, u)")]
        self.assertEqual(low_of(MFE, equations, term("m(x, f(y))")), term("e"))
        self.assertEqual(low_of(MFE, equations[1:], term("m(f(y), x)")), term("m(f(y), x)"))
        self.assertEqual(low_of(MFE, equations[1:], term("m(y, f(x))")), term("m(f(x), y)"))
        self.assertEqual(low_of(MFE, [equation("f(u) = f(v)")], term("f(f(e))")), term("f(f(e))"))
        self.own(down, MFE, equations, term("m(x, f(y))"))

    def test_lines(self):
        # letters sorted step by step: each step exchanges two neighbours
        signature = (("a", 1), ("b", 1), ("c", 1))
        swap = [equation("b(a(x)) = a(b(x))", signature)]
        for high, low_many, lines in ((4, 5, 21), (1, 1, 2)):
            one = tower("b", high + 1, tower("a", low_many + 1))
            self.assertEqual(len(down(signature, swap, one)), lines)
        # 20 over 24, and one over 19 more: 499 steps, 500 lines; one over 20: one more
        for more, error in ((19, False), (20, True)):
            one = tower("b", 21, tower("a", 24 + 1 - more, ("deed", "b", (tower("a", more + 1),))))
            steps = 20 * 24 + more
            if error:
                self.refuses(TooMany, down, signature, swap, one)
                self.refuses(TooMany, low_of, signature, swap, one)
            else:
                self.assertEqual(len(down(signature, swap, one)), steps + 1)

    def test_refused(self):
        self.refuses(NoSignature, down, (), [1], 2)
        for thing in (1, None, (term("e"),), (term("e"), tower("f", 13)), nested(300)):
            self.refuses(NoEquation, low_of, MFE, [equation("e = e"), thing], 2)
        self.refuses(NoTerm, down, MFE, [equation("e = e")], ("var", "t"))
        self.refuses(NoTerm, low_of, MFE, [], tower("f", 61))


class ConjecturesTest(Checks, unittest.TestCase):
    def test_all(self):
        told_some = 0
        for the_kind, size, parts in ((MONOID, 2, 5), (UNARY, 3, 5), (COMMUTING, 2, 5), (POINTS, 3, 4), (EMPTY, 1, 3),
                                      (kind("f/1 e/0"), 2, 5), (kind("m/2", "m(u, u) = u"), 2, 5)):
            for letters in range(3):
                expected = every_conjecture(the_kind, size, parts, letters)
                told = conjectures(the_kind, size, parts=parts, letters=letters)
                self.assertEqual(told, expected)
                self.assertIsNone(conjectures_judged(the_kind, size, told, parts=parts, letters=letters))
                told_some += len(told)
        self.assertGreater(told_some, 15)
        self.own(conjectures, MONOID, 2)
        self.own(conjectures_judged, MONOID, 2, [equation("m(e, e) = m(e, m(e, u))", MONOID[0])])

    def test_too_many(self):
        # where all is one, a letter beside each term makes an equation that leads nothing down
        wide = kind("f/1 g/1 h/1", "x = y")
        self.assertEqual(len(conjectures(wide, 2)), len(every_conjecture(wide, 2, 4, 2)))
        self.refuses(TooMany, conjectures, wide, 2, parts=5)
        self.assertGreater(len(every_conjecture(wide, 2, 5, 2)), 100)
        narrow = kind("f/1 g/1", "x = y")
        self.assertEqual(conjectures(narrow, 2, parts=5), every_conjecture(narrow, 2, 5, 2))

    def test_judged(self):
        size, parts = 2, 5
        told = conjectures(MONOID, size, parts=parts)
        self.assertGreater(len(told), 3)

        def judge(thing):
            return conjectures_judged(MONOID, size, thing, parts=parts)

        for thing in (None, (), tuple(told), [1], told + [None], [told[0]] * 101, [told[0], (tower("f", 3),)], nested(300),
                      [(term("e"), tower("f", 3))]):
            self.assertEqual(judge(thing), ("list",))
        broken = equation("m(u, v) = m(v, u)", MONOID[0])
        model, worths = parting(MONOID, broken, size)
        self.assertEqual(judge(told[:2] + [broken]), ("breaks", 2, model, worths))
        self.assertEqual(judge([broken, broken] + told), ("breaks", 0, model, worths))
        self.assertEqual(judge([told[0], told[0], broken]), ("breaks", 2, model, worths))
        self.assertEqual(judge([told[0], told[0]] + told[1:]), ("needless", 1))
        self.assertEqual(judge([told[0]] * 100), ("needless", 1))
        self.assertEqual(judge(told + [told[0][::-1]]), ("needless", len(told)))
        self.assertEqual(judge([equation("m(e, u) = u", MONOID[0])]), ("needless", 0))
        for k in range(len(told)):
            self.assertEqual(judge(told[:k] + told[k + 1:]), self.by_words(told[:k] + told[k + 1:], size, parts))
            turned = told[:k] + [told[k][::-1]] + told[k + 1:]
            self.assertEqual(judge(turned), self.by_words(turned, size, parts))
        lettered = [tuple(put(side, {"u": var("y"), "v": var("u")}) for side in one) for one in told]
        self.assertIsNone(judge(lettered))
        self.assertEqual(judge([]), ("lacking", self.first_pair(size, parts)))
        exchanged = told[1:] + told[:1]
        self.assertEqual(judge(exchanged), self.by_words(exchanged, size, parts))

    def pairs(self, size, parts, the_kind=MONOID):
        firsts = {}
        for together in every_class(the_kind, size, parts, 2):
            for one in together[1:]:
                firsts[one] = together[0]
        return [(firsts[one], one) for one in every_small(the_kind[0], parts, 2) if one in firsts]

    def is_lacking(self, pair, thing, the_kind=MONOID):
        least = least_equation(the_kind[0], pair)
        if least in [least_equation(the_kind[0], one) for one in thing]:
            return False
        for k in range(len(thing) + 1):
            equations = list(the_kind[1]) + thing[:k]
            if low(equations, pair[0]) == low(equations, pair[1]):
                return False
            if low(equations, least[0]) == low(equations, least[1]):
                return False
        return True

    def first_pair(self, size, parts):
        return [pair for pair in self.pairs(size, parts) if self.is_lacking(pair, [])][0]

    def by_words(self, thing, size, parts, the_kind=MONOID, pairs=None):
        for k, one in enumerate(thing):
            equations = list(the_kind[1]) + thing[:k]
            if low(equations, one[0]) == low(equations, one[1]):
                return ("needless", k)
        for pair in pairs or self.pairs(size, parts, the_kind):
            if self.is_lacking(pair, thing, the_kind):
                return ("lacking", pair)
        return None

    def test_judged_where_letters_matter(self):
        # of these kinds two terms have one low term and the sides of their least equation haven't, and the other way about
        for the_kind, size, parts in ((kind("f/1 m/2", "u = m(m(u, x), x)", "f(x) = f(v)"), 2, 4), (kind("m/2", "m(v, u) = u"), 1, 5),
                                      (kind("f/1 m/2", "f(v) = m(u, f(f(v)))"), 2, 3)):
            told = conjectures(the_kind, size, parts=parts)
            self.assertEqual(told, every_conjecture(the_kind, size, parts, 2))
            pairs = self.pairs(size, parts, the_kind)
            for k in range(-1, len(told)):
                thing = told[:k] + told[k + 1:] if k >= 0 else told
                self.assertEqual(conjectures_judged(the_kind, size, thing, parts=parts),
                                 self.by_words(thing, size, parts, the_kind, pairs))
            thing = told[::-1]
            self.assertEqual(conjectures_judged(the_kind, size, thing, parts=parts),
                             self.by_words(thing, size, parts, the_kind, pairs))

    def test_judged_refused(self):
        self.refuses(NoKind, conjectures_judged, 1, 0, None)
        self.refuses(NoSize, conjectures_judged, MONOID, 0, None, parts=9)
        self.refuses(NoNumber, conjectures_judged, MONOID, 1, None, parts=9)
        self.refuses(TooMany, conjectures_judged, EMPTY, 4, None)
        # a row down that counts: by equations for k and fewer places a and b^k go down 2 ** k - 1 times
        counter = kind("a/1 b/1 e/0")
        rows = []
        for k in range(10):
            rows.append((("deed", "b", (tower("a", k + 1, deed("e")),)), ("deed", "a", (tower("b", k + 1, deed("e")),))))
        self.assertEqual(len(down(counter[0], rows[:8], rows[8][1])), 256)
        self.refuses(TooMany, down, counter[0], rows[:9], rows[9][1])
        self.assertEqual(conjectures_judged(counter, 1, rows[:9], parts=2)[0], "lacking")
        self.refuses(TooMany, conjectures_judged, counter, 1, rows, parts=2)
        self.assertEqual(conjectures_judged(counter, 1, rows[:1] * 2 + rows, parts=2), ("needless", 1))


class PartingTest(Checks, unittest.TestCase):
    def test_first(self):
        chance = fixed_chance(52)
        for the_kind, size in ((MONOID, 3), (UNARY, 4), (COMMUTING, 2)):
            for k in range(40):
                asked = tuple(some_term(chance, the_kind[0], chance.randint(1, 5), "uxz") for side in range(2))
                expected = None
                for here in range(1, size + 1):
                    for model in all_models(the_kind, here):
                        rows = breaks(the_kind[0], model, asked)
                        if rows and expected is None:
                            expected = (model, rows[0])
                self.assertEqual(parting(the_kind, asked, size), expected)

    def test_refused(self):
        self.refuses(NoKind, parting, 1, 2, 3)
        self.refuses(NoEquation, parting, MONOID, 2, 0)
        for size in (0, 7, True, None):
            self.refuses(NoSize, parting, MONOID, equation("e = e", MONOID[0]), size)
        self.refuses(TooMany, parting, EMPTY, equation("u = u", EMPTY[0]), 4)
        self.assertEqual(term_text(MONOID[0], classes(MONOID, 1)[0][0]), "e")


if __name__ == "__main__":
    unittest.main()
