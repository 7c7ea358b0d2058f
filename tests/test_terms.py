"""Points 4 to 7: signatures, terms, puttings, equations and kinds."""

import itertools
import unittest

from deedworlds.errors import NoEquation, NoKind, NoPlace, NoPutting, NoSignature, NoTerm, TooBig
from deedworlds.terms import (
    MOST_PARTS, MOST_SIDE, MOST_SIZE, VARIABLES, equation_wrong, kind_wrong, lettered, letters_of, matched, paths_in,
    put_at, put_in, signature_wrong, term_at, term_wrong, variables_in,
)
from deedworlds.texts import least_equation
from tests.helpers import (
    MFE, Checks, count_parts, deed, equation, fixed_chance, kind, letters_in, nested, some_term, term, tower, var,
)

NO_SIGNATURES = [None, True, 3, "m", (), [("m", 2)], (("m", True),), (("m", 2), ("m", 2)), ((),), nested(300)]
NO_TERMS = [None, True, 0, "x", (), ("x",), ("var",), ("var", "a"), ("var", "xx"), ("var", ""), ("var", True),
            ("var", ["x"]), ("var", "x", ()), ["var", "x"], ("deed", "e"), ("deed", "n", ()), ("deed", ["e"], ()),
            ("deed", "e", []), ("deed", "e", (var("x"),)), ("deed", "e", None), ("deed", "f", ()),
            ("deed", "f", (var("x"), var("x"))), ("deed", "m", (var("x"),)), ("deed", "f", "x"), ("f", "e", ()),
            ("deed", "e", (), ()), ("var", None), (True, "x"), nested(300), [[[]]]]
NO_PATHS = [None, True, 0, "0", [], [0], (True,), (False,), ("0",), ((0,),), ([0],), (None,), (2,), (-1,), (0, 0),
            (1, 0, 0), (10 ** 29,), (0,) * 300, nested(300)]


class ConstantsTest(unittest.TestCase):
    def test_constants(self):
        self.assertEqual(VARIABLES, ("u", "v", "w", "x", "y", "z"))
        self.assertEqual((MOST_PARTS, MOST_SIDE, MOST_SIZE), (60, 12, 6))


class SignatureTest(Checks, unittest.TestCase):
    def test_right_ones(self):
        for signature in [(("m", 2),), (("m", 2), ("e", 0)), (("abcd", 1), ("abc", 1), ("ab", 0), ("a", 2)),
                          (("qrst", 0),)]:
            self.assertIsNone(signature_wrong(signature))

    def test_no_tuple_of_one_to_four(self):
        for thing in [None, True, 0, "m", "mmm", [], [("m", 2)], (), tuple((name, 0) for name in "abcde"),
                      (None,) * 5]:
            self.assertEqual(signature_wrong(thing), ("signature",), thing)

    def test_deeds_that_are_none(self):
        for one in [None, "m2", ["m", 2], ("m",), ("m", 2, 2), ("m", True), ("m", False), ("m", 3), ("m", -1),
                    ("m", "2"), ("m", None), ("m", 10 ** 29), ("x", 2), ("u", 0), ("abcde", 2), ("", 2), ("M", 2),
                    ("aB", 2), ("a b", 1), (None, 2), (7, 2), (["m"], 2), (("m",), 2), ("a\n", 1), nested(299)]:
            self.assertEqual(signature_wrong((one,)), ("deed", 0), one)
            self.assertEqual(signature_wrong((("m", 2), one, one)), ("deed", 1), one)

    def test_the_least_deed_ahead_of_twice(self):
        self.assertEqual(signature_wrong((("m", 2), ("m", 2), ("x", 1), ("y", 1))), ("deed", 2))

    def test_twice(self):
        self.assertEqual(signature_wrong((("m", 2), ("m", 1))), ("twice", 1))
        self.assertEqual(signature_wrong((("a", 0), ("b", 0), ("b", 0), ("a", 0))), ("twice", 2))
        self.assertEqual(signature_wrong((("a", 0), ("b", 0), ("c", 0), ("a", 1))), ("twice", 3))

    def test_no_signature_ahead_of_all_else(self):
        for thing in NO_SIGNATURES:
            self.refuses(NoSignature, term_wrong, thing, None)
            self.refuses(NoSignature, equation_wrong, thing, None)
            self.refuses(NoSignature, variables_in, thing, None)
            self.refuses(NoSignature, letters_of, thing, None)
            self.refuses(NoSignature, paths_in, thing, None)
            self.refuses(NoSignature, term_at, thing, None, None)
            self.refuses(NoSignature, put_at, thing, None, None, None)
            self.refuses(NoSignature, put_in, thing, None, {"a": None})
            self.refuses(NoSignature, matched, thing, None, None)
            self.refuses(NoSignature, lettered, thing, None)
            self.refuses(NoSignature, least_equation, thing, None)


class TermTest(Checks, unittest.TestCase):
    def test_right_ones(self):
        for one in [var("u"), var("z"), deed("e"), deed("f", deed("e")), deed("m", var("x"), deed("f", var("y")))]:
            self.assertIsNone(term_wrong(MFE, one))

    def test_wrong_at_the_begin(self):
        for thing in NO_TERMS:
            self.assertEqual(term_wrong(MFE, thing), ("term", ()), thing)

    def test_wrong_within(self):
        for thing in NO_TERMS:
            self.assertEqual(term_wrong(MFE, deed("m", var("x"), deed("f", thing))), ("term", (1, 0)), thing)

    def test_the_first_path_in_the_order_of_places(self):
        self.assertEqual(term_wrong(MFE, deed("m", deed("f", None), None)), ("term", (0, 0)))
        self.assertEqual(term_wrong(MFE, deed("m", deed("m", var("x"), None), deed("n"))), ("term", (0, 1)))
        self.assertEqual(term_wrong(MFE, deed("m", deed("f", var("x")), None)), ("term", (1,)))

    def test_parts(self):
        self.assertIsNone(term_wrong(MFE, tower("f", 59)))
        self.assertIsNone(term_wrong(MFE, tower("f", 60)))
        self.assertEqual(term_wrong(MFE, tower("f", 61)), ("parts",))
        self.assertIsNone(term_wrong(MFE, deed("m", tower("f", 30), tower("f", 29))))
        self.assertEqual(term_wrong(MFE, deed("m", tower("f", 30), tower("f", 30))), ("parts",))

    def test_a_wrong_path_goes_ahead_of_too_many_parts(self):
        self.assertEqual(term_wrong(MFE, deed("m", tower("f", 100), None)), ("term", (1,)))
        self.assertEqual(term_wrong(MFE, tower("f", 149, None)), ("term", (0,) * 148))

    def test_many_parts_soon(self):
        one = var("x")
        for step in range(16):
            one = deed("m", one, one)
        self.assertEqual(term_wrong(MFE, one), ("parts",))
        self.assertEqual(term_wrong(MFE, deed("m", one, deed("m", one, 0))), ("term", (1, 1)))

    def test_variables_in(self):
        self.assertEqual(variables_in(MFE, term("m(z, m(u, m(x, m(u, f(e)))))")), ("u", "x", "z"))
        self.assertEqual(variables_in(MFE, deed("e")), ())
        self.assertEqual(variables_in(signature=MFE, term=var("y")), ("y",))

    def test_paths_in(self):
        self.assertEqual(paths_in(MFE, term("m(m(x, e), f(y))")), [(), (0,), (0, 0), (0, 1), (1,), (1, 0)])
        self.assertEqual(paths_in(MFE, var("x")), [()])
        chance = fixed_chance()
        for step in range(50):
            one = some_term(chance, MFE, 30)
            paths = paths_in(MFE, one)
            self.assertEqual(paths, sorted(paths))
            self.assertEqual(len(paths), count_parts(one))

    def test_term_at(self):
        one = term("m(m(x, e), f(y))")
        for path, text in [((), "m(m(x, e), f(y))"), ((0,), "m(x, e)"), ((0, 1), "e"), ((1, 0), "y")]:
            self.assertEqual(term_at(MFE, one, path), term(text))

    def test_no_path(self):
        one = deed("m", var("x"), deed("f", deed("e")))
        for path in NO_PATHS:
            self.refuses(NoPlace, term_at, MFE, one, path)
            self.refuses(NoPlace, put_at, MFE, one, path, None)

    def test_put_at(self):
        one = term("m(m(x, e), f(y))")
        self.assertEqual(put_at(MFE, one, (), var("z")), var("z"))
        self.assertEqual(put_at(MFE, one, (0, 1), term("f(z)")), term("m(m(x, f(z)), f(y))"))
        self.assertEqual(put_at(MFE, one, (1,), one), term("m(m(x, e), m(m(x, e), f(y)))"))
        self.assertEqual(put_at(signature=MFE, term=one, path=(0,), other=var("u")), term("m(u, f(y))"))

    def test_put_at_gives_back_what_term_at_took(self):
        chance = fixed_chance()
        for step in range(40):
            one, other = some_term(chance, MFE, 20), some_term(chance, MFE, 20)
            for path in paths_in(MFE, one):
                told = put_at(MFE, one, path, other)
                self.assertEqual(term_at(MFE, told, path), other)
                self.assertEqual(put_at(MFE, told, path, term_at(MFE, one, path)), one)

    def test_too_big(self):
        one = deed("m", tower("f", 30), var("x"))
        self.assertEqual(count_parts(put_at(MFE, one, (1,), tower("f", 29))), 60)
        self.refuses(TooBig, put_at, MFE, one, (1,), tower("f", 30))
        self.assertEqual(count_parts(put_at(MFE, one, (), tower("f", 60))), 60)
        self.assertEqual(count_parts(put_at(MFE, one, (0,), tower("f", 58))), 60)
        self.refuses(TooBig, put_at, MFE, one, (0,), tower("f", 59))

    def test_order_of_refusals(self):
        one = deed("m", tower("f", 30), var("x"))
        self.refuses(NoTerm, term_at, MFE, None, None)
        self.refuses(NoTerm, put_at, MFE, None, None, None)
        self.refuses(NoPlace, put_at, MFE, one, (2,), None)
        self.refuses(NoTerm, put_at, MFE, one, (1,), tower("f", 61))
        for thing in NO_TERMS + [tower("f", 61)]:
            self.refuses(NoTerm, variables_in, MFE, thing)
            self.refuses(NoTerm, paths_in, MFE, thing)
            self.refuses(NoTerm, term_at, MFE, thing, ())
            self.refuses(NoTerm, put_at, MFE, thing, (9,), var("x"))
            self.refuses(NoTerm, put_at, MFE, var("x"), (), thing)
            self.refuses(NoTerm, lettered, MFE, thing)


class PuttingTest(Checks, unittest.TestCase):
    def test_put_in(self):
        one = term("m(x, m(y, z))")
        self.assertEqual(put_in(MFE, one, {"x": term("f(z)"), "z": deed("e")}), term("m(f(z), m(y, e))"))
        self.assertEqual(put_in(MFE, one, {}), one)
        self.assertEqual(put_in(MFE, one, {"u": var("v")}), one)

    def test_all_at_once(self):
        self.assertEqual(put_in(MFE, term("m(x, m(y, x))"), {"x": var("y"), "y": var("x")}), term("m(y, m(x, y))"))
        around = {"x": var("y"), "y": var("z"), "z": var("x")}
        self.assertEqual(put_in(MFE, term("m(x, m(y, z))"), around), term("m(y, m(z, x))"))
        self.assertEqual(put_in(MFE, var("x"), {"x": term("f(x)")}), term("f(x)"))

    def test_no_putting(self):
        for putting in [{"a": var("x")}, {"": var("x")}, {"xx": var("x")}, {"x": None}, {"x": "y"}, {"u": ("var",)},
                        {"x": var("y"), "z": deed("n")}, {"x": tower("f", 61)}, {"e": deed("e")}]:
            self.refuses(NoPutting, put_in, MFE, var("x"), putting)
            self.refuses(NoTerm, put_in, MFE, None, putting)

    def test_no_putting_ahead_of_too_big(self):
        self.refuses(NoPutting, put_in, MFE, term("m(x, x)"), {"x": tower("f", 60), "y": None})
        self.refuses(TooBig, put_in, MFE, term("m(x, x)"), {"x": tower("f", 60)})

    def test_too_big_just_beyond(self):
        one = term("m(x, m(x, e))")
        self.assertEqual(count_parts(put_in(MFE, one, {"x": tower("f", 28)})), 59)
        self.refuses(TooBig, put_in, MFE, one, {"x": tower("f", 29)})
        self.assertEqual(count_parts(put_in(MFE, term("f(x)"), {"x": tower("f", 59)})), 60)
        self.refuses(TooBig, put_in, MFE, term("f(x)"), {"x": tower("f", 60)})
        self.assertEqual(put_in(MFE, term("f(x)"), {"y": tower("f", 60)}), term("f(x)"))
        self.assertEqual(put_in(MFE, tower("f", 60), {"y": deed("e")}), tower("f", 60))
        both = deed("m", tower("f", 30), tower("f", 28, var("y")))
        self.assertEqual(count_parts(put_in(MFE, both, {"y": term("f(e)")})), 60)
        self.refuses(TooBig, put_in, MFE, both, {"y": term("f(f(e))")})

    def test_matched(self):
        self.assertEqual(matched(MFE, term("m(x, f(y))"), term("m(f(y), f(e))")), {"x": term("f(y)"), "y": deed("e")})
        self.assertEqual(matched(MFE, deed("e"), deed("e")), {})
        self.assertEqual(matched(MFE, var("z"), var("x")), {"z": var("x")})
        self.assertEqual(matched(signature=MFE, pattern=var("z"), term=deed("e")), {"z": deed("e")})

    def test_matched_with_a_variable_twice(self):
        self.assertEqual(matched(MFE, term("m(x, x)"), term("m(f(y), f(y))")), {"x": term("f(y)")})
        self.assertIsNone(matched(MFE, term("m(x, x)"), term("m(f(y), f(z))")))
        self.assertIsNone(matched(MFE, term("m(x, m(y, x))"), term("m(e, m(e, y))")))

    def test_no_match(self):
        for pattern, one in [("e", "x"), ("f(x)", "x"), ("f(x)", "e"), ("m(x, e)", "m(x, x)"), ("f(e)", "f(f(e))"),
                             ("m(x, y)", "f(x)")]:
            self.assertIsNone(matched(MFE, term(pattern), term(one)), (pattern, one))

    def test_matched_refuses(self):
        self.refuses(NoTerm, matched, MFE, None, var("x"))
        self.refuses(NoTerm, matched, MFE, var("x"), None)

    def test_matched_is_turned_back_by_put_in(self):
        chance = fixed_chance()
        for step in range(200):
            pattern, one = some_term(chance, MFE, 6, "xy"), some_term(chance, MFE, 9, "xy")
            told = matched(MFE, pattern, one)
            if told is not None:
                self.assertEqual(tuple(sorted(told)), letters_in(pattern))
                self.assertEqual(put_in(MFE, pattern, told), one)
            putting = {name: some_term(chance, MFE, 5) for name in letters_in(pattern)}
            self.assertEqual(matched(MFE, pattern, put_in(MFE, pattern, putting)), putting)

    def test_no_match_against_all_puttings(self):
        small = [var("x"), var("y"), deed("e"), deed("f", var("x")), deed("f", deed("e"))]
        terms = small + [deed("m", one, other) for one in small for other in small]
        for pattern in terms:
            names = letters_in(pattern)
            for one in terms:
                told = [dict(zip(names, row)) for row in itertools.product(terms, repeat=len(names))
                        if put_in(MFE, pattern, dict(zip(names, row))) == one]
                self.assertEqual(matched(MFE, pattern, one), told[0] if told else None)

    def test_lettered(self):
        self.assertEqual(lettered(MFE, term("m(z, m(x, m(z, y)))")), term("m(u, m(v, m(u, w)))"))
        self.assertEqual(lettered(MFE, term("m(v, u)")), term("m(u, v)"))
        self.assertEqual(lettered(MFE, deed("e")), deed("e"))
        six = "m(z, m(y, m(x, m(w, m(v, u)))))"
        self.assertEqual(lettered(MFE, term(six)), term("m(u, m(v, m(w, m(x, m(y, z)))))"))


class EquationTest(Checks, unittest.TestCase):
    def test_no_tuple_of_two(self):
        for thing in [None, True, 3, "x = x", (), (var("x"),), [var("x"), var("x")], (var("x"),) * 3, nested(300)]:
            self.assertEqual(equation_wrong(MFE, thing), ("equation",), thing)

    def test_sides_that_are_no_terms(self):
        self.assertEqual(equation_wrong(MFE, (None, None)), ("left", ("term", ())))
        self.assertEqual(equation_wrong(MFE, (var("x"), deed("f", None))), ("right", ("term", (0,))))
        self.assertEqual(equation_wrong(MFE, (tower("f", 61), None)), ("left", ("parts",)))
        self.assertEqual(equation_wrong(MFE, (tower("f", 13), None)), ("right", ("term", ())))
        self.assertEqual(equation_wrong(MFE, (tower("f", 13), tower("f", 61))), ("right", ("parts",)))

    def test_side(self):
        self.assertIsNone(equation_wrong(MFE, (tower("f", 12), tower("f", 12))))
        self.assertEqual(equation_wrong(MFE, (tower("f", 13), tower("f", 13))), ("side", 0))
        self.assertEqual(equation_wrong(MFE, (tower("f", 12), tower("f", 13))), ("side", 1))
        self.assertEqual(equation_wrong(MFE, (tower("f", 60), var("x"))), ("side", 0))

    def test_letters(self):
        four = (term("m(u, m(v, w))"), term("m(u, z)"))
        five = (term("m(u, m(v, w))"), term("m(y, z)"))
        self.assertIsNone(equation_wrong(MFE, four))
        self.assertEqual(equation_wrong(MFE, five), ("letters",))
        self.assertEqual(equation_wrong(MFE, (five[0], deed("m", five[1], tower("f", 10)))), ("side", 1))
        self.assertEqual(letters_of(MFE, four), ("u", "v", "w", "z"))
        self.assertEqual(letters_of(MFE, (deed("e"), deed("e"))), ())
        self.assertEqual(letters_of(signature=MFE, equation=equation("z = m(y, x)")), ("x", "y", "z"))

    def test_no_equation(self):
        for thing in [None, (var("x"),), (None, var("x")), (tower("f", 13), var("x")), nested(300)]:
            self.refuses(NoEquation, letters_of, MFE, thing)
            self.refuses(NoEquation, least_equation, MFE, thing)

    def test_least_equation(self):
        self.assertEqual(least_equation(MFE, equation("m(y, x) = m(x, y)")), equation("m(u, v) = m(v, u)"))
        self.assertEqual(least_equation(MFE, equation("x = m(e, x)")), equation("m(e, u) = u"))
        self.assertEqual(least_equation(MFE, equation("z = e")), equation("e = u"))
        self.assertEqual(least_equation(MFE, equation("x = y")), equation("u = v"))

    def test_least_equation_of_all_that_say_the_same(self):
        chance = fixed_chance()
        for step in range(60):
            one = (some_term(chance, MFE, 8, "xyz"), some_term(chance, MFE, 8, "xyz"))
            told = least_equation(MFE, one)
            self.assertEqual(least_equation(MFE, told), told)
            for names in itertools.permutations(("w", "z", "y")):
                putting = {name: var(other) for name, other in zip("xyz", names)}
                left, right = put_in(MFE, one[0], putting), put_in(MFE, one[1], putting)
                self.assertEqual(least_equation(MFE, (left, right)), told)
                self.assertEqual(least_equation(MFE, (right, left)), told)


class KindTest(Checks, unittest.TestCase):
    def test_right_ones(self):
        self.assertIsNone(kind_wrong((MFE, ())))
        self.assertIsNone(kind_wrong((MFE, (equation("x = x"),) * 8)))

    def test_each_answer(self):
        one = equation("x = x")
        for thing in [None, True, MFE, (), (MFE,), [MFE, ()], (MFE, (), ()), nested(300)]:
            self.assertEqual(kind_wrong(thing), ("kind",), thing)
        self.assertEqual(kind_wrong((None, None)), ("signature", ("signature",)))
        self.assertEqual(kind_wrong(((("m", 3),), None)), ("signature", ("deed", 0)))
        self.assertEqual(kind_wrong(((("m", 1), ("m", 1)), None)), ("signature", ("twice", 1)))
        for thing in [None, [], [one], (one,) * 9, (None,) * 9, "x = x"]:
            self.assertEqual(kind_wrong((MFE, thing)), ("equations",), thing)
        self.assertEqual(kind_wrong((MFE, (one, None, ()))), ("equation", 1, ("equation",)))
        self.assertEqual(kind_wrong((MFE, (one, one, (None, None)))), ("equation", 2, ("left", ("term", ()))))
        self.assertEqual(kind_wrong((MFE, ((tower("f", 13), var("x")),))), ("equation", 0, ("side", 0)))

    def test_no_kind(self):
        from deedworlds.texts import kind_text
        for thing in [None, (MFE,), ((), ()), (MFE, [equation("x = x")]), (MFE, (None,)), nested(300)]:
            self.refuses(NoKind, kind_text, thing)
        self.assertEqual(kind("m/2"), ((("m", 2),), ()))


if __name__ == "__main__":
    unittest.main()
