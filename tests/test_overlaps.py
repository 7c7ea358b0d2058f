"""Terms made one, pairs, overlaps, uses and joins: points 63a to 63d."""

import unittest

from deedworlds.errors import NoPair, NoPlace, NoPutting, NoSignature, NoTerm, TooBig
from deedworlds.overlaps import join_wrong, overlap_of, overlaps, pair_wrong, unified, used, uses_at
from tests.helpers import (
    MFE, Checks, count_parts, deed, equation, fixed_chance, letters_in, nested, some_term, term, tower, var,
)
from tests.ruling import all_overlaps, all_uses, behind, made_one, overlap, put_wholly
from tests.walks import all_paths, at, fitted, put

GROUP = [equation("m(m(x, y), z) = m(x, m(y, z))"), equation("m(e, x) = x"), equation("m(f(x), x) = e")]
ODD = (None, True, 1, "m", (), [], [1], nested(300), ("var",), ("var", "t"), ("deed", "m", ()), ("var", "u", ()))


class UnifiedTest(Checks, unittest.TestCase):
    def both(self, one, other):
        return unified(MFE, term(one), term(other))

    def test_none(self):
        for one, other in (("e", "f(e)"), ("m(u, u)", "m(e, f(e))"), ("f(u)", "m(v, w)"), ("m(u, u)", "m(v, f(v))"),
                           ("m(u, f(u))", "m(v, v)"), ("m(u, v)", "e"), ("m(f(u), u)", "m(x, f(x))")):
            self.assertIsNone(self.both(one, other))
            self.assertIsNone(self.both(other, one))

    def test_one_already(self):
        self.assertEqual(self.both("e", "e"), {})
        self.assertEqual(self.both("m(e, f(e))", "m(e, f(e))"), {})

    def test_plain(self):
        self.assertEqual(self.both("u", "f(e)"), {"u": term("f(e)")})
        self.assertEqual(self.both("m(u, e)", "m(f(v), v)"), {"u": term("f(e)"), "v": term("e")})
        told = self.both("u", "v")
        self.assertIn(told, ({"u": var("u"), "v": var("u")}, {"u": var("v"), "v": var("v")}))

    def test_by_chance(self):
        chance = fixed_chance()
        ones = nones = 0
        for k in range(1500):
            one = some_term(chance, MFE, chance.randint(1, 9), "uvw")
            other = some_term(chance, MFE, chance.randint(1, 9), "xyz")
            by = made_one(one, other, {})
            told = unified(MFE, one, other)
            if by is None:
                self.assertIsNone(told)
                nones += 1
                continue
            ones += 1
            self.assertEqual(tuple(sorted(told)), letters_in(one, other))
            whole = put(one, told)
            self.assertEqual(put(other, told), whole)
            self.assertLessEqual(set(letters_in(whole)), set(letters_in(one, other)))
            # the widest: it becomes the naive one, which is widest too, by putting in, and the other way about
            naive = put_wholly(one, by)
            self.assertIsNotNone(fitted(whole, naive, {}))
            self.assertIsNotNone(fitted(naive, whole, {}))
            rows = [told[name] for name in sorted(told)]
            plain = [put_wholly(var(name), by) for name in sorted(told)]
            found = {}
            for one_row, other_row in zip(rows, plain):
                found = fitted(one_row, other_row, found)
                self.assertIsNotNone(found)
        self.assertGreater(ones, 200)
        self.assertGreater(nones, 200)

    def test_too_big(self):
        left = deed("m", var("u"), var("u"))
        self.assertEqual(count_parts(put(left, unified(MFE, left, deed("m", tower("f", 29), tower("f", 29))))), 59)
        self.assertEqual(count_parts(unified(MFE, var("u"), tower("f", 60))["u"]), 60)
        self.refuses(NoTerm, unified, MFE, var("u"), tower("f", 61))
        one = deed("m", deed("m", var("u"), var("u")), tower("f", 20, var("v")))
        other = deed("m", var("x"), deed("f", var("x")))
        self.refuses(TooBig, unified, MFE, deed("m", var("u"), var("u")), deed("m", tower("f", 29), tower("f", 30, var("y"))))
        self.assertIsNone(unified(MFE, one, other))

    def test_sixty_and_one_more(self):
        for parts, error in ((28, None), (29, TooBig)):
            # u becomes a tower of so many parts and m two more: 1 + parts + (parts + 3)
            one = deed("m", var("u"), deed("f", deed("f", deed("f", var("u")))))
            other = deed("m", tower("f", parts), var("y"))
            if error is None:
                self.assertEqual(count_parts(put(one, unified(MFE, one, other))), 60)
            else:
                self.refuses(error, unified, MFE, one, other)

    def test_grows_without_measure(self):
        # each variable doubles the one behind it: small terms of a very great one
        row = deed("m", deed("m", var("u"), var("v")), var("w"))
        other = deed("m", deed("m", deed("m", var("x"), var("x")), deed("m", var("y"), var("y"))),
                     deed("m", var("z"), var("z")))
        told = unified(MFE, row, other)
        self.assertEqual(put(row, told), put(other, told))
        wide = deed("m", tower("f", 25, var("u")), tower("f", 25, var("u")))
        double = deed("m", deed("m", var("x"), var("x")), deed("m", var("y"), var("y")))
        self.assertIsNone(unified(MFE, wide, double))

    def test_refused(self):
        self.refuses(NoSignature, unified, (), 1, 2)
        self.refuses(NoTerm, unified, MFE, term("u"), 2)
        for thing in ODD:
            self.refuses(NoTerm, unified, MFE, thing, term("u"))
        self.refuses(NoPutting, unified, MFE, term("m(u, v)"), term("f(v)"))
        self.refuses(NoPutting, unified, MFE, term("f(u)"), term("f(u)"))
        self.own(unified, MFE, term("m(u, f(v))"), term("m(f(x), y)"))


class PairTest(Checks, unittest.TestCase):
    def test_wrong(self):
        for thing in ODD + ((term("e"),), (term("e"), 1), [term("e"), term("e")], (tower("f", 61), term("e")),
                            (term("e"), term("e"), term("e"))):
            self.assertEqual(pair_wrong(MFE, thing), ("pair",))
        self.assertEqual(pair_wrong(MFE, (term("u"), term("u"))), ("letters",))
        self.assertEqual(pair_wrong(MFE, (term("m(m(u, v), m(w, x))"), term("y"))), ("letters",))
        self.assertEqual(pair_wrong(MFE, (term("m(m(u, v), w)"), term("x"))), ("free",))
        self.assertIsNone(pair_wrong(MFE, (term("m(m(u, v), z)"), term("z"))))
        self.assertIsNone(pair_wrong(MFE, (tower("f", 60), tower("f", 60))))
        self.assertIsNone(pair_wrong(MFE, (term("e"), term("f(e)"))))
        self.refuses(NoSignature, pair_wrong, None, None)


class OverlapTest(Checks, unittest.TestCase):
    def test_known(self):
        one, unit, inverse = GROUP
        self.assertEqual(overlap_of(MFE, one, unit, (0,)),
                         (term("m(m(e, u), v)"), term("m(e, m(u, v))"), term("m(u, v)")))
        self.assertEqual(overlap_of(MFE, one, one, (0,)),
                         (term("m(m(m(u, v), w), x)"), term("m(m(u, v), m(w, x))"), term("m(m(u, m(v, w)), x)")))
        self.assertIsNone(overlap_of(MFE, unit, inverse, ()))
        self.assertEqual(overlap_of(MFE, unit, unit, ()), (term("m(e, u)"), term("u"), term("u")))

    def some_pair(self, chance):
        while True:
            left = some_term(chance, MFE, chance.randint(2, 9), "uxz")
            right = some_term(chance, MFE, chance.randint(1, 9), "uxz")
            if left[0] == "deed" and set(letters_in(right)) <= set(letters_in(left)):
                return left, right

    def test_by_chance(self):
        chance = fixed_chance(11)
        found = 0
        for k in range(600):
            first, second = self.some_pair(chance), self.some_pair(chance)
            for path in all_paths(first[0]):
                if at(first[0], path)[0] == "deed":
                    told = overlap_of(MFE, first, second, path)
                    self.assertEqual(told, overlap(first, second, path))
                    found += told is not None
                else:
                    self.refuses(NoPlace, overlap_of, MFE, first, second, path)
            other = tuple(put(one, {"u": var("z"), "x": var("w"), "z": var("u")}) for one in second)
            self.assertEqual(overlap_of(MFE, first, other, ()), overlap_of(MFE, first, second, ()))
        self.assertGreater(found, 300)

    def test_lists_by_chance(self):
        chance = fixed_chance(12)
        for k in range(120):
            pairs = [self.some_pair(chance) for n in range(chance.randint(0, 4))]
            expected = all_overlaps(pairs)
            if expected == "big":
                self.refuses(TooBig, overlaps, MFE, pairs)
            else:
                self.assertEqual(overlaps(MFE, pairs), expected)
        self.assertEqual(overlaps(MFE, GROUP), all_overlaps(GROUP))
        self.assertEqual(overlaps(MFE, []), [])
        self.own(overlaps, MFE, GROUP)

    def test_itself(self):
        self.assertEqual(overlaps(MFE, [(term("f(f(u))"), term("u"))]),
                         [(0, 0, (0,), term("f(f(f(u)))"), term("f(u)"), term("f(u)"))])
        both = [(term("f(u)"), term("e")), (term("f(e)"), term("e"))]
        self.assertEqual(overlaps(MFE, both), [(0, 1, (), term("f(e)"), term("e"), term("e"))])

    def test_a_variable_in_its_own_term(self):
        self.assertIsNone(overlap_of(MFE, (term("m(u, f(u))"), term("e")), (term("m(u, u)"), term("e")), ()))
        self.assertEqual(overlaps(MFE, [(term("m(u, f(u))"), term("e")), (term("m(v, v)"), term("v"))]), [])

    def test_too_big_of_each_alone(self):
        whole = (deed("m", tower("f", 58), term("e")), term("e"))
        self.assertEqual(count_parts(overlap_of(MFE, (deed("m", var("u"), var("v")), term("e")), whole, ())[0]), 60)
        flat = (deed("f", deed("m", var("u"), var("v"))), term("e"))
        for parts, error in ((57, None), (58, TooBig)):
            second = (deed("m", tower("f", parts), term("e")), term("e"))
            if error:
                self.refuses(error, overlap_of, MFE, flat, second, (0,))
                self.refuses(error, overlaps, MFE, [flat, second])
            else:
                self.assertEqual(count_parts(overlap_of(MFE, flat, second, (0,))[0]), 60)
        grows = (deed("m", var("u"), var("v")), deed("m", var("u"), var("u")))
        for parts, error in ((29, None), (30, TooBig)):
            second = (deed("m", tower("f", parts), term("e")), term("e"))
            if error:
                self.refuses(error, overlap_of, MFE, grows, second, ())
            else:
                self.assertEqual(count_parts(overlap_of(MFE, grows, second, ())[1]), 59)
        plain = (deed("f", deed("f", deed("m", var("u"), var("v")))), term("e"))
        for parts, error in ((58, None), (59, TooBig)):
            second = (deed("m", term("e"), term("e")), tower("f", parts, term("e")))
            if error:
                self.refuses(error, overlap_of, MFE, plain, second, (0, 0))
            else:
                self.assertEqual(count_parts(overlap_of(MFE, plain, second, (0, 0))[2]), 60)

    def test_refused(self):
        right = GROUP[1]
        for thing in ODD + ((term("u"), term("u")), (term("m(m(u, v), m(w, x))"), term("u")), (term("f(u)"), term("v"))):
            self.refuses(NoPair, overlap_of, MFE, thing, right, ())
            self.refuses(NoPair, overlap_of, MFE, right, thing, (5,))
            self.refuses(NoPair, overlaps, MFE, [right, thing])
        self.refuses(NoSignature, overlap_of, 1, 2, 3, 4)
        self.refuses(NoSignature, overlaps, 1, [2])
        self.refuses(NoSignature, overlaps, (), [])
        for path in ((1,), (2,), (0, 0), [], None, (True,), (0.0,), "0", 0, (False,), (-1,), nested(300)):
            self.refuses(NoPlace, overlap_of, MFE, right, right, path)


class UsesTest(Checks, unittest.TestCase):
    def test_by_chance(self):
        chance = fixed_chance(13)
        for k in range(300):
            one = some_term(chance, MFE, chance.randint(1, 15))
            expected = all_uses(GROUP, one)
            self.assertEqual(uses_at(MFE, GROUP, one), expected)
            for k in range(3):
                for path in all_paths(one):
                    told = used(MFE, GROUP, one, (k, path))
                    self.assertEqual(told, behind(GROUP, one, (k, path)) if (k, path) in expected else None)

    def test_no_uses(self):
        one = term("m(e, m(e, u))")
        self.assertEqual(used(MFE, GROUP, one, (1, (1,))), term("m(e, u)"))
        for use in (None, (), (1,), [1, ()], (True, ()), (1, []), (1, (True,)), (1, (1, 0)), (1, (2,)), (3, ()), (-1, ()),
                    (1, (), ()), ("1", ()), (1, ("1",)), nested(300), (0, ()), (1, (5,)), (1, (-1,))):
            self.assertIsNone(used(MFE, GROUP, one, use))

    def test_too_big(self):
        double = [(term("f(u)"), term("m(u, u)"))]
        self.assertEqual(count_parts(used(MFE, double, tower("f", 30), (0, ()))), 59)
        self.refuses(TooBig, used, MFE, double, tower("f", 31), (0, ()))
        self.refuses(TooBig, used, MFE, double, tower("f", 60), (0, (0,) * 58))
        self.assertEqual(used(MFE, double, tower("f", 59), (0, (0,) * 57)), tower("f", 58, term("m(x, x)")))
        self.assertIsNone(used(MFE, double, tower("f", 31), (1, ())))
        self.refuses(TooBig, used, MFE, [(term("f(u)"), term("f(f(f(u)))"))], tower("f", 59), (0, (0,)))
        self.assertEqual(used(MFE, [(term("f(u)"), term("f(f(u))"))], tower("f", 59), (0, (0,))), tower("f", 60))

    def test_refused(self):
        for function in (used, join_wrong):
            more = (None,) if function is used else (term("e"), None)
            self.refuses(NoSignature, function, (), [1], 2, *more)
            self.refuses(NoPair, function, MFE, [GROUP[0], 1], 2, *more)
            self.refuses(NoTerm, function, MFE, GROUP, 2, *more)
        self.refuses(NoTerm, join_wrong, MFE, GROUP, term("e"), 2, None)
        self.refuses(NoSignature, uses_at, (), [1], 2)
        self.refuses(NoPair, uses_at, MFE, [(term("u"), term("u"))], 2)
        self.refuses(NoTerm, uses_at, MFE, GROUP, ("var", "t"))
        self.own(uses_at, MFE, GROUP, term("m(e, m(e, u))"))


class JoinTest(Checks, unittest.TestCase):
    def test_each_answer(self):
        one, other = term("m(e, m(e, u))"), term("m(m(e, e), u)")
        self.assertIsNone(join_wrong(MFE, GROUP, one, other, ([(1, ())], [(0, ()), (1, ())])))
        self.assertIsNone(join_wrong(MFE, GROUP, one, other, ([], [(0, ())])))
        self.assertEqual(join_wrong(MFE, GROUP, one, other, ([(1, ())], [(0, ())])), ("apart",))
        self.assertIsNone(join_wrong(MFE, GROUP, one, one, ([], [])))
        self.assertEqual(join_wrong(MFE, GROUP, one, other, ([], [])), ("apart",))
        for thing in (None, (), ([],), ([], [], []), [[], []], ([], ()), ((), []), ([1], []), ([(0,)], []),
                      ([(True, ())], []), ([], [(-1, ())]), ([], [(0, (-1,))]), ([(0, (True,))], []), ([(0, [])], []),
                      ([(0, (), ())], []), ([[0, ()]], []), nested(300), ("", "")):
            self.assertEqual(join_wrong(MFE, GROUP, one, other, thing), ("join",))
        self.assertEqual(join_wrong(MFE, GROUP, one, other, ([(1, ()), (2, ())], [(2, ())])), ("use", 0, 1))
        self.assertEqual(join_wrong(MFE, GROUP, one, other, ([(1, ())], [(3, ())])), ("use", 1, 0))
        self.assertEqual(join_wrong(MFE, GROUP, one, other, ([(1, ()), (1, ())], [(0, ()), (1, ()), (1, (0,))])),
                         ("use", 1, 2))
        self.assertEqual(join_wrong(MFE, GROUP, one, other, ([(9, ())], [(9, ())])), ("use", 0, 0))
        self.assertEqual(join_wrong(MFE, GROUP, one, other, ([(1, (7,))], [])), ("use", 0, 0))

    def test_beyond(self):
        double = [(term("f(u)"), term("m(u, u)"))]
        self.assertEqual(join_wrong(MFE, double, tower("f", 31), tower("f", 31), ([], [(0, ())])), ("use", 1, 0))
        self.assertIsNone(join_wrong(MFE, double, tower("f", 30), tower("f", 30), ([(0, ())], [(0, ())])))


if __name__ == "__main__":
    unittest.main()
