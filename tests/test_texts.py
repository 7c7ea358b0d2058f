"""Point 8: terms, equations and kinds as texts."""

import itertools
import unittest

from deedworlds.errors import NoEquation, NoKind, NoSignature, NoTerm
from deedworlds.texts import (
    equation_text, kind_text, read_equation, read_kind, read_term, term_text,
)
from tests.helpers import (
    M, MFE, Checks, deed, equation, fixed_chance, kind, letters_in, nested, some_term, term, tower, var,
)


def comb(parts, last="x"):
    """The text of a term of f and x with so many parts."""
    return "f(" * (parts - 1) + last + ")" * (parts - 1)


def texts_up_to(signature, signs):
    """All texts of terms of x with at most so many signs, written as point 8 tells it."""
    by_length = {length: set() for length in range(signs + 1)}
    for length in range(1, signs + 1):
        here = by_length[length]
        here.update(text for text in ["x"] + [name for name, places in signature if places == 0]
                    if len(text) == length)
        for name, places in signature:
            inner = length - len(name) - 2 - 2 * (places - 1)
            if places == 1 and inner > 0:
                here.update(f"{name}({one})" for one in by_length[inner])
            if places == 2:
                here.update(f"{name}({one}, {other})" for first in range(1, inner)
                            for one in by_length[first] for other in by_length[inner - first])
    return set().union(*by_length.values())


class TellTest(Checks, unittest.TestCase):
    def test_term_text(self):
        self.assertEqual(term_text(MFE, var("x")), "x")
        self.assertEqual(term_text(MFE, deed("e")), "e")
        self.assertEqual(term_text(MFE, deed("m", deed("f", var("x")), deed("e"))), "m(f(x), e)")
        self.refuses(NoSignature, term_text, None, None)
        self.refuses(NoTerm, term_text, MFE, "x")

    def test_equation_text(self):
        self.assertEqual(equation_text(MFE, (deed("m", var("x"), deed("e")), var("x"))), "m(x, e) = x")
        self.refuses(NoSignature, equation_text, None, None)
        self.refuses(NoEquation, equation_text, MFE, (var("x"),))

    def test_kind_text(self):
        self.assertEqual(kind_text((MFE, ())), "KIND m/2 f/1 e/0")
        one = (MFE, (equation("x = e"), equation("f(x) = m(x, y)")))
        self.assertEqual(kind_text(one), "KIND m/2 f/1 e/0\nx = e\nf(x) = m(x, y)")
        self.refuses(NoKind, kind_text, nested(300))

    def test_told_and_read_back(self):
        chance = fixed_chance()
        for step in range(100):
            one = some_term(chance, MFE, 60)
            self.assertEqual(read_term(MFE, term_text(MFE, one)), one)
            two = (some_term(chance, MFE, 12, "xyz"), some_term(chance, MFE, 12, "xyz"))
            self.assertEqual(read_equation(MFE, equation_text(MFE, two)), two)
            whole = (MFE, (two,) * chance.randint(0, 8))
            self.assertEqual(read_kind(kind_text(whole)), whole)

    def test_names_that_begin_alike(self):
        signature = (("a", 0), ("ab", 1), ("abc", 2), ("abcd", 0))
        for text in ["a", "ab(a)", "abc(a, abcd)", "abcd", "ab(ab(abc(abcd, x)))"]:
            self.assertEqual(term_text(signature, read_term(signature, text)), text)
        self.breaks_at(0, 2, read_term, signature, "ab")
        self.breaks_at(0, 3, read_term, signature, "abc")
        self.breaks_at(0, 4, read_term, signature, "abcde")
        self.breaks_at(0, 2, read_term, signature, "abd")
        self.breaks_at(0, 1, read_term, signature, "ac")
        self.breaks_at(0, 2, read_term, (("a", 2), ("abc", 0)), "ab(")

    def test_names_of_arguments(self):
        self.assertEqual(read_term(signature=MFE, text="f(x)"), deed("f", var("x")))
        self.assertEqual(read_equation(signature=MFE, text="e = x"), (deed("e"), var("x")))
        self.assertEqual(read_kind(text="KIND e/0"), ((("e", 0),), ()))


class ReadTermTest(Checks, unittest.TestCase):
    def test_examples(self):
        self.breaks_at(0, 6, read_term, M, "m(e, x")
        self.breaks_at(0, 3, read_term, M, "m(e)")
        self.breaks_at(0, 0, read_term, M, "n")
        self.breaks_at(0, 1, read_term, M, "me")
        self.breaks_at(0, 1, read_term, M, "m x")

    def test_other_breaks(self):
        for text, at in [("", 0), (" x", 0), ("x ", 1), ("xy", 1), ("m", 1), ("m(", 2), ("m(x", 3), ("m(x,", 4),
                         ("m(x, ", 5), ("m(x,y)", 4), ("m(x,  y)", 5), ("m(x, y,", 6), ("m(x, y))", 7), ("e()", 1),
                         ("X", 0), ("m(x, n)", 5), ("m (x, y)", 1), ("(x)", 0), ("m()", 2), ("x = x", 1)]:
            self.breaks_at(0, at, read_term, M, text)

    def test_line_ends(self):
        for text, at in [("\nx", 0), ("x\n", 1), ("m(x,\ny)", 4), ("\n", 0), ("m\n", 1)]:
            self.breaks_at(0, at, read_term, M, text)

    def test_parts(self):
        self.assertEqual(read_term(MFE, comb(60)), tower("f", 60))
        self.assertEqual(read_term(MFE, comb(59)), tower("f", 59))
        self.breaks_at(0, 120, read_term, MFE, comb(61))
        self.breaks_at(0, 120, read_term, MFE, "f(" * 60)
        self.breaks_at(0, 119, read_term, MFE, "f(" * 59 + "f")
        self.breaks_at(0, 120, read_term, MFE, "f(" * 61)
        self.breaks_at(0, 120, read_term, MFE, "f(" * 5000)
        self.breaks_at(0, 118 + 1, read_term, MFE, "f(" * 59 + "x")
        wide = "m(" + comb(30) + ", " + comb(29) + ")"
        self.assertEqual(read_term(MFE, wide), deed("m", tower("f", 30), tower("f", 29)))
        wider = "m(" + comb(30) + ", " + comb(30) + ")"
        self.breaks_at(0, wider.index("x", wider.index("x") + 1), read_term, MFE, wider)

    def test_six_variables(self):
        self.assertEqual(letters_in(term("m(u, m(v, m(w, m(x, m(y, z)))))")), ("u", "v", "w", "x", "y", "z"))

    def test_against_all_beginnings(self):
        signature = (("m", 2), ("a", 0), ("ab", 1))
        whole = texts_up_to(signature, 19)
        begins = {text[:at] for text in whole for at in range(len(text) + 1)}
        for length in range(6):
            for signs in itertools.product("mabx(), ", repeat=length):
                text = "".join(signs)
                if text in whole:
                    self.assertEqual(term_text(signature, read_term(signature, text)), text)
                elif length < 5 or text[:2] in ("m(", "ab", "a(", "m,"):
                    at = max(at for at in range(length + 1) if text[:at] in begins)
                    self.breaks_at(0, at, read_term, signature, text)

    def test_refuses(self):
        self.refuses(NoSignature, read_term, None, "x")
        self.refuses(NoSignature, read_equation, (("m", True),), "")


class ReadEquationTest(Checks, unittest.TestCase):
    def test_breaks(self):
        for text, at in [("", 0), ("x", 1), ("x ", 2), ("x =", 3), ("x = ", 4), ("x=x", 1), ("x = n", 4),
                         ("x =  x", 4), ("x = x ", 5), ("x = x\n", 5), ("x\n= x", 1), ("m(x, = x", 5), ("m(x,= x", 4),
                         ("x == x", 3), ("x = x = x", 5), ("m(x, y) = m(y, x", 16)]:
            self.breaks_at(0, at, read_equation, MFE, text)

    def test_sides(self):
        self.assertEqual(read_equation(MFE, comb(12) + " = " + comb(12)), (tower("f", 12), tower("f", 12)))
        self.breaks_at(0, 24, read_equation, MFE, comb(13) + " = x")
        self.breaks_at(0, 24, read_equation, MFE, "f(" * 12)
        self.breaks_at(0, 4 + 24, read_equation, MFE, "x = " + comb(13))
        self.breaks_at(0, 4 + 24, read_equation, MFE, "x = " + "f(" * 12)

    def test_a_fifth_variable(self):
        self.assertEqual(letters_in(*equation("m(u, m(v, w)) = m(z, u)")), ("u", "v", "w", "z"))
        self.breaks_at(0, 21, read_equation, MFE, "m(u, m(v, w)) = m(x, y)")
        self.breaks_at(0, 20, read_equation, MFE, "m(u, m(v, m(w, m(x, z")
        self.breaks_at(0, 20, read_equation, MFE, "m(u, m(v, m(w, m(x, ")
        self.breaks_at(0, 20, read_equation, MFE, "m(u, m(v, m(w, m(x, y)))) = x")
        self.breaks_at(0, 21, read_equation, MFE, "m(u, m(v, w)) = m(x, ")


class ReadKindTest(Checks, unittest.TestCase):
    def test_examples(self):
        self.breaks_at(0, 5, read_kind, "KIND x/2")
        self.breaks_at(0, 10, read_kind, "KIND m/2 m/1")
        self.breaks_at(0, 14, read_kind, "KIND m/2 e/0 e/1")
        self.breaks_at(0, 15, read_kind, "KIND abcd/2 abcd/1")

    def test_first_line(self):
        for text, at in [("", 0), ("kind m/2", 0), ("KIN", 3), ("KIND", 4), ("KIND ", 5), ("KINDm/2", 4),
                         ("KIND  m/2", 5), ("KIND m", 6), ("KIND m/", 7), ("KIND m/3", 7), ("KIND m/-1", 7),
                         ("KIND m/22", 8), ("KIND m/2 ", 9), ("KIND m/2  e/0", 9), ("KIND m/2, e/0", 8),
                         ("KIND abcde/2", 9), ("KIND M/2", 5), ("KIND /2", 5), ("KIND mu/2", 6),
                         ("KIND abc/2 abc/1", 14), ("KIND abc/2 abc", 14), ("KIND abcd/2 abcd", 15),
                         ("KIND abcd/2 abce", 16), ("KIND abcd/2 abcef", 16), ("KIND a/0 b/0 c/0 d/0 ", 20),
                         ("KIND a/0 b/0 c/0 d/0 e/0", 20), ("KIND a/0 b/0 c/0 d/00", 20)]:
            self.breaks_at(0, at, read_kind, text)
        self.assertEqual(read_kind("KIND a/0 b/1 c/2 d/0"), ((("a", 0), ("b", 1), ("c", 2), ("d", 0)), ()))
        self.assertEqual(read_kind("KIND abcd/2 abc/1 ab/0"), ((("abcd", 2), ("abc", 1), ("ab", 0)), ()))

    def test_line_ends(self):
        self.breaks_at(0, 0, read_kind, "\nKIND m/2")
        self.breaks_at(1, 0, read_kind, "KIND m/2\n")
        self.breaks_at(1, 0, read_kind, "KIND m/2\n\nx = x")
        self.breaks_at(2, 0, read_kind, "KIND m/2\nx = x\n")
        self.breaks_at(0, 9, read_kind, "KIND m/2 \nx = x")

    def test_equations(self):
        self.assertEqual(kind("m/2", "m(x, y) = m(y, x)")[1], (equation("m(x, y) = m(y, x)"),))
        self.breaks_at(1, 0, read_kind, "KIND m/2\ne = e")
        self.breaks_at(2, 3, read_kind, "KIND m/2 e/0\ne = e\nm(e) = x\nn")
        self.breaks_at(1, 1, read_kind, "KIND m/2\nx")
        self.breaks_at(0, 7, read_kind, "KIND m/3\nnone")

    def test_a_ninth_equation(self):
        eight = "KIND m/2" + "\nx = x" * 8
        self.assertEqual(len(read_kind(eight)[1]), 8)
        self.breaks_at(9, 0, read_kind, eight + "\nx = x")
        self.breaks_at(9, 0, read_kind, eight + "\n")
        self.breaks_at(8, 4, read_kind, "KIND m/2" + "\nx = x" * 7 + "\nx = \nx = x")


if __name__ == "__main__":
    unittest.main()
